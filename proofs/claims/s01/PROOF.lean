import PyProof.Rows.All
import Wide.All
import OpenK.AllK
import Wide.FinOn
import PyProof.EqAt
import PyProof.EqKinds
import PyProof.TupleCall
import Open.SpecLaws
import KE.OsGo
import KE.DatumOrd
import KE.KDictKeyed
import KE.KeyNested
import HandS.ForSpec
import HandS.Flow
import HandS.Iter
import HandS.Dict
import HandS.SetFor
import HandS.SortKw
import HandS.TupAny
import HandS.TupMul
import PySem.Challenge.RW_weekplays_s01_answers
set_option Elab.async false
set_option maxRecDepth 100000
set_option maxHeartbeats 8000000
set_option linter.all false
/-! The search, as plain functions, and that it is the specification's best. -/
namespace Wp
open Uw05

def dark : Play := ⟨[0], 0, 0, true, 0, 6⟩
def full (w : Week) : List Play := dark :: w.plays
def pl (ps : List Play) (k : Nat) : Play := ps.getD k dark
def takes (p : Play) (t c : Nat) : Nat := p.brings.getD (min t (p.brings.length - 1)) 0 * c / 100
def change (ps : List Play) (b n : Nat) : Nat := if b = n then 0 else (pl ps b).strike + (pl ps n).set
def noWay : Best := ⟨0, 0, []⟩
def joined (f l : Best) : Best :=
  if l.many = 0 then f else if f.many = 0 ∨ f.left < l.left then l else if l.left < f.left then f else ⟨f.left, f.many + l.many, f.bill⟩
def bump (g : List Nat) (k : Nat) : List Nat := g.set k (g.getD k 0 + 1)
def lacks (ps : List Play) (g : List Nat) : Bool := (List.range ps.length).any fun i => decide (g.getD i 0 < (pl ps i).least)
def atEnd (ps : List Play) (b : Nat) (g : List Nat) : Best := if lacks ps g = true then noWay else ⟨-(change ps b 0 : Nat), 1, []⟩
def shift (c : Int) (k : Nat) (r : Best) : Best := ⟨c + r.left, r.many, k :: r.bill⟩
def gain (come : List Nat) (ps : List Play) (k n b : Nat) (g : List Nat) : Int :=
  ((takes (pl ps k) (g.getD k 0) (come.getD n 0) : Nat) : Int) - ((change ps b k : Nat) : Int)
def choosing (come : List Nat) (ps : List Play) (rest : Best) (k n b : Nat) (g : List Nat) : Best :=
  if k = b ∧ (pl ps k).runs = false then noWay else if g.getD k 0 = (pl ps k).most then noWay else shift (gain come ps k n b g) k rest
/-- m nights are left -/
def look (come : List Nat) (ps : List Play) : Nat → Nat → Nat → List Nat → Best
  | 0, _, b, g => atEnd ps b g
  | m + 1, n, b, g => ((List.range ps.length).map fun k => choosing come ps (look come ps m (n + 1) k (bump g k)) k n b g).foldl joined noWay

/-! ### better -/
theorem better_none (a : Option Best) : better a none = a := by cases a <;> rfl
theorem none_better (a : Option Best) : better none a = a := by cases a <;> rfl
theorem better_some (x y : Best) : better (some x) (some y) = if x.left < y.left then some y else if y.left < x.left then some x else some ⟨x.left, x.many + y.many, x.bill⟩ := rfl
theorem better_assoc (a b c : Option Best) : better (better a b) c = better a (better b c) := by
  cases a with
  | none => rw [none_better, none_better]
  | some x =>
    cases b with
    | none => rw [none_better, better_none]
    | some y =>
      cases c with
      | none => rw [better_none, better_none]
      | some z =>
        rw [better_some, better_some]
        by_cases h1 : x.left < y.left
        · rw [if_pos h1]
          by_cases h2 : y.left < z.left
          · rw [if_pos h2, better_some, better_some, if_pos h2, if_pos (by omega)]
          · by_cases h3 : z.left < y.left
            · rw [if_neg h2, if_pos h3, better_some, better_some, if_neg h2, if_pos h3, if_pos h1]
            · rw [if_neg h2, if_neg h3, better_some, better_some, if_neg h2, if_neg h3]
              exact (if_pos h1).symm
        · rw [if_neg h1]
          by_cases h1' : y.left < x.left
          · rw [if_pos h1', better_some]
            by_cases h2 : y.left < z.left
            · rw [if_pos h2, better_some]
            · by_cases h3 : z.left < y.left
              · rw [if_neg h2, if_pos h3, better_some, if_neg (by omega), if_pos (by omega), if_neg h1, if_pos h1']
              · rw [if_neg h2, if_neg h3, if_neg (by omega), if_pos (by omega)]
                show _ = if x.left < y.left then _ else if y.left < x.left then some x else _
                rw [if_neg h1, if_pos h1']
          · rw [if_neg h1']
            by_cases h2 : y.left < z.left
            · rw [if_pos h2, better_some]
              show (if x.left < z.left then some z else _) = _
              rw [if_pos (by omega), better_some, if_pos (by omega)]
            · by_cases h3 : z.left < y.left
              · rw [if_neg h2, if_pos h3, better_some]
                show (if x.left < z.left then some z else if z.left < x.left then _ else _) = _
                rw [if_neg (by omega), if_pos (by omega), better_some, if_neg h1, if_neg h1']
              · rw [if_neg h2, if_neg h3]
                show (if x.left < z.left then some z else if z.left < x.left then _ else _) = if x.left < y.left then _ else if y.left < x.left then some x else _
                rw [if_neg (by omega), if_neg (by omega), if_neg h1, if_neg h1', Nat.add_assoc]
theorem fold_better (l : List (Option Best)) (a : Option Best) : l.foldl better a = better a (l.foldl better none) := by
  induction l generalizing a with
  | nil => rw [List.foldl_nil, List.foldl_nil, better_none]
  | cons x r ih => rw [List.foldl_cons, List.foldl_cons, ih, ih (better none x), none_better, better_assoc]
theorem fold_flat {α : Type} (f : α → List (Option Best)) (l : List α) : (l.flatMap f).foldl better none = (l.map fun x => (f x).foldl better none).foldl better none := by
  induction l with
  | nil => rfl
  | cons x r ih => rw [List.flatMap_cons, List.foldl_append, fold_better, ih, List.map_cons, List.foldl_cons, fold_better _ (better none _), none_better]
def opt (b : Best) : Option Best := if b.many = 0 then none else some b
theorem opt_noWay : opt noWay = none := rfl
theorem opt_pos {b : Best} (h : b.many = 0) : opt b = none := if_pos h
theorem opt_neg {b : Best} (h : ¬ b.many = 0) : opt b = some b := if_neg h
theorem opt_joined (f l : Best) : opt (joined f l) = better (opt f) (opt l) := by
  unfold joined
  by_cases hl : l.many = 0
  · rw [if_pos hl, opt_pos hl, better_none]
  · rw [if_neg hl, opt_neg hl]
    by_cases hf : f.many = 0
    · rw [if_pos (Or.inl hf), opt_pos hf, opt_neg hl, none_better]
    · rw [opt_neg hf, better_some]
      by_cases h : f.left < l.left
      · rw [if_pos (Or.inr h), opt_neg hl, if_pos h]
      · rw [if_neg (by intro z; rcases z with z | z <;> omega), if_neg h]
        by_cases h' : l.left < f.left
        · rw [if_pos h', if_pos h', opt_neg hf]
        · rw [if_neg h', if_neg h']
          exact opt_neg (b := ⟨f.left, f.many + l.many, f.bill⟩) (by show ¬ f.many + l.many = 0; omega)
theorem opt_fold (l : List Best) (a : Best) : opt (l.foldl joined a) = (l.map opt).foldl better (opt a) := by
  induction l generalizing a with
  | nil => rfl
  | cons x r ih => rw [List.foldl_cons, ih, opt_joined, List.map_cons, List.foldl_cons]
theorem better_shift (c : Int) (k : Nat) (a b : Option Best) : better (a.map (shift c k)) (b.map (shift c k)) = (better a b).map (shift c k) := by
  cases a with
  | none => rw [Option.map_none, none_better, none_better]
  | some x =>
    cases b with
    | none => rw [Option.map_none, better_none, better_none]
    | some y =>
      rw [Option.map_some, Option.map_some, better_some, better_some]
      have e : ∀ z : Best, (shift c k z).left = c + z.left := fun _ => rfl
      rw [e, e]
      by_cases h : x.left < y.left
      · rw [if_pos h, if_pos (by omega)]; rfl
      · rw [if_neg h, if_neg (by omega)]
        by_cases h' : y.left < x.left
        · rw [if_pos h', if_pos (by omega)]; rfl
        · rw [if_neg h', if_neg (by omega)]; rfl
theorem fold_shift (c : Int) (k : Nat) (l : List (Option Best)) (a : Option Best) : (l.map (Option.map (shift c k))).foldl better (a.map (shift c k)) = (l.foldl better a).map (shift c k) := by
  induction l generalizing a with
  | nil => rfl
  | cons x r ih => rw [List.map_cons, List.foldl_cons, List.foldl_cons, better_shift, ih]
theorem opt_shift (c : Int) (k : Nat) (b : Best) : opt (shift c k b) = (opt b).map (shift c k) := by
  unfold opt
  show (if b.many = 0 then _ else _) = _
  by_cases h : b.many = 0
  · rw [if_pos h, if_pos h]; rfl
  · rw [if_neg h, if_neg h]; rfl

/-! ### the search against all bills -/
def val (come : List Nat) (ps : List Play) : Nat → Nat → List Nat → Bill → Int
  | _, b, _, [] => -((change ps b 0 : Nat) : Int)
  | n, b, g, x :: r => gain come ps x n b g + val come ps (n + 1) x (bump g x) r
def fits (ps : List Play) : Nat → List Nat → Bill → Bool
  | _, g, [] => !lacks ps g
  | b, g, x :: r => !(decide (x = b) && !(pl ps x).runs) && (!decide (g.getD x 0 = (pl ps x).most) && fits ps x (bump g x) r)
def cand (come : List Nat) (ps : List Play) (n b : Nat) (g : List Nat) (l : List Bill) : Option Best :=
  ((l.filter (fits ps b g)).map fun r => some (⟨val come ps n b g r, 1, r⟩ : Best)).foldl better none
theorem filter_flatMap {α β : Type} (p : β → Bool) (f : α → List β) (l : List α) : (l.flatMap f).filter p = l.flatMap fun x => (f x).filter p := by
  induction l with
  | nil => rfl
  | cons x r ih => rw [List.flatMap_cons, List.filter_append, ih, List.flatMap_cons]
theorem map_flatMap' {α β γ : Type} (q : β → γ) (f : α → List β) (l : List α) : (l.flatMap f).map q = l.flatMap fun x => (f x).map q := by
  induction l with
  | nil => rfl
  | cons x r ih => rw [List.flatMap_cons, List.map_append, ih, List.flatMap_cons]
theorem look_is (come : List Nat) (ps : List Play) (K : Nat) (hK : ps.length = K + 1) : ∀ (m n b : Nat) (g : List Nat), opt (look come ps m n b g) = cand come ps n b g (bills K m)
  | 0, n, b, g => by
    show opt (atEnd ps b g) = (([[]] : List Bill).filter (fits ps b g) |>.map fun r => some (⟨val come ps n b g r, 1, r⟩ : Best)).foldl better none
    unfold atEnd
    cases h : lacks ps g
    · rw [if_neg Bool.false_ne_true, List.filter_cons, if_pos (by show (!lacks ps g) = true; rw [h]; rfl)]
      rfl
    · rw [if_pos rfl, List.filter_cons, if_neg (by show ¬ (!lacks ps g) = true; rw [h]; simp)]
      rfl
  | m + 1, n, b, g => by
    show opt (((List.range ps.length).map fun k => choosing come ps (look come ps m (n + 1) k (bump g k)) k n b g).foldl joined noWay) = (((List.range (K + 1)).flatMap fun x => (bills K m).map fun r => x :: r).filter (fits ps b g) |>.map fun r => some (⟨val come ps n b g r, 1, r⟩ : Best)).foldl better none
    rw [opt_fold, filter_flatMap, map_flatMap', fold_flat, hK, List.map_map, opt_noWay]
    congr 1
    refine List.map_congr_left fun k _ => ?_
    show opt (choosing come ps (look come ps m (n + 1) k (bump g k)) k n b g) = _
    unfold choosing
    rw [List.filter_map, List.map_map]
    by_cases h1 : k = b ∧ (pl ps k).runs = false
    · rw [if_pos h1]
      have e : (bills K m).filter (fits ps b g ∘ fun r => k :: r) = [] := List.filter_eq_nil_iff.mpr fun r _ => by
        show ¬ (!(decide (k = b) && !(pl ps k).runs) && _) = true
        rw [h1.2, decide_eq_true h1.1]; simp
      rw [e]; rfl
    · rw [if_neg h1]
      have c1 : (!(decide (k = b) && !(pl ps k).runs)) = true := by
        cases hr : (pl ps k).runs
        · rw [decide_eq_false (fun z => h1 ⟨z, hr⟩)]; rfl
        · simp
      by_cases h2 : g.getD k 0 = (pl ps k).most
      · rw [if_pos h2]
        have e : (bills K m).filter (fits ps b g ∘ fun r => k :: r) = [] := List.filter_eq_nil_iff.mpr fun r _ => by
          show ¬ (!(decide (k = b) && !(pl ps k).runs) && (!decide (g.getD k 0 = (pl ps k).most) && _)) = true
          rw [decide_eq_true h2]; simp
        rw [e]; rfl
      · rw [if_neg h2, opt_shift, look_is come ps K hK m (n + 1) k (bump g k)]
        unfold cand
        have f := fold_shift (gain come ps k n b g) k (((bills K m).filter (fits ps k (bump g k))).map fun r => some (⟨val come ps (n + 1) k (bump g k) r, 1, r⟩ : Best)) none
        rw [Option.map_none] at f
        rw [← f, List.map_map]
        have e : (bills K m).filter (fits ps b g ∘ fun r => k :: r) = (bills K m).filter (fits ps k (bump g k)) := List.filter_congr fun r _ => by
          show (!(decide (k = b) && !(pl ps k).runs) && (!decide (g.getD k 0 = (pl ps k).most) && fits ps k (bump g k) r)) = fits ps k (bump g k) r
          rw [c1, decide_eq_false h2]; simp
        rw [e]
        rfl
end Wp

/-! What is right, what is taken, what work costs: by walking a bill, as the specification says by places. -/
namespace Wp
open Uw05

def took (come : List Nat) (ps : List Play) : Nat → List Nat → Bill → List Nat
  | _, _, [] => []
  | n, g, x :: r => takes (pl ps x) (g.getD x 0) (come.getD n 0) :: took come ps (n + 1) (bump g x) r
def work (ps : List Play) : Nat → Bill → Nat
  | b, [] => change ps b 0
  | b, x :: r => change ps b x + work ps x r
def zeros (ps : List Play) : List Nat := List.replicate ps.length 0
def chain (ps : List Play) : Nat → Bill → Prop
  | _, [] => True
  | b, x :: r => ¬ (x = b ∧ (pl ps x).runs = false) ∧ chain ps x r

theorem val_is (come : List Nat) (ps : List Play) : ∀ (r : Bill) (n b : Nat) (g : List Nat), val come ps n b g r = (((took come ps n g r).sum : Nat) : Int) - ((work ps b r : Nat) : Int)
  | [], n, b, g => by
    show -((change ps b 0 : Nat) : Int) = (((([] : List Nat).sum : Nat)) : Int) - ((change ps b 0 : Nat) : Int)
    rw [List.sum_nil]; omega
  | x :: r, n, b, g => by
    show gain come ps x n b g + val come ps (n + 1) x (bump g x) r = (((takes (pl ps x) (g.getD x 0) (come.getD n 0) :: took come ps (n + 1) (bump g x) r).sum : Nat) : Int) - ((change ps b x + work ps x r : Nat) : Int)
    rw [val_is come ps r, List.sum_cons]
    unfold gain
    omega

/-! ### counting -/
theorem times_nil (k : Nat) : times [] k = 0 := rfl
theorem times_cons (x : Nat) (r : Bill) (k : Nat) : times (x :: r) k = (if x = k then 1 else 0) + times r k := by
  unfold times
  rw [List.filter_cons]
  by_cases h : x = k
  · rw [if_pos (by simpa using h), if_pos h, List.length_cons]; omega
  · rw [if_neg (by simpa using h), if_neg h]; omega
theorem times_le (b : Bill) (k : Nat) : times b k ≤ b.length := List.length_filter_le _ _
theorem times_append (a b : Bill) (k : Nat) : times (a ++ b) k = times a k + times b k := by
  unfold times
  rw [List.filter_append, List.length_append]
theorem times_count (b : Bill) (k : Nat) : times b k = b.count k := by
  induction b with
  | nil => rfl
  | cons x r ih =>
    rw [times_cons, List.count_cons, ih]
    by_cases h : x = k
    · rw [if_pos h, if_pos (by simpa using h)]; omega
    · rw [if_neg h, if_neg (by simpa using h)]; omega
theorem bump_length (g : List Nat) (k : Nat) : (bump g k).length = g.length := List.length_set
theorem bump_get {g : List Nat} {k : Nat} (h : k < g.length) (j : Nat) : (bump g k).getD j 0 = g.getD j 0 + if k = j then 1 else 0 := by
  unfold bump
  rw [List.getD_eq_getElem?_getD, List.getElem?_set]
  by_cases e : k = j
  · rw [if_pos e, if_pos h, if_pos e]; subst e; rfl
  · rw [if_neg e, if_neg e]
    rw [List.getD_eq_getElem?_getD]; rfl
theorem zeros_get (ps : List Play) (k : Nat) : (zeros ps).getD k 0 = 0 := by
  unfold zeros
  rw [List.getD_eq_getElem?_getD, List.getElem?_replicate]
  split <;> rfl

/-! ### fits -/
theorem fits_iff (ps : List Play) : ∀ (r : Bill) (b : Nat) (g : List Nat), g.length = ps.length → (∀ x ∈ r, x < ps.length) → (∀ k, k < ps.length → g.getD k 0 ≤ (pl ps k).most) →
    (fits ps b g r = true ↔ chain ps b r ∧ ∀ k, k < ps.length → (pl ps k).least ≤ g.getD k 0 + times r k ∧ g.getD k 0 + times r k ≤ (pl ps k).most)
  | [], b, g, hg, _, hm => by
    show (!lacks ps g) = true ↔ True ∧ _
    unfold lacks
    rw [Bool.not_eq_true', List.any_eq_false]
    constructor
    · intro h
      refine ⟨trivial, fun k hk => ?_⟩
      have := h k (List.mem_range.mpr hk)
      rw [decide_eq_true_eq] at this
      have := hm k hk
      rw [times_nil]; omega
    · rintro ⟨_, h⟩ k hk
      have := (h k (List.mem_range.mp hk)).1
      rw [times_nil] at this
      rw [decide_eq_true_eq]; omega
  | x :: r, b, g, hg, hx, hm => by
    have hxl : x < ps.length := hx x (by simp)
    show (!(decide (x = b) && !(pl ps x).runs) && (!decide (g.getD x 0 = (pl ps x).most) && fits ps x (bump g x) r)) = true ↔ (¬ (x = b ∧ (pl ps x).runs = false) ∧ chain ps x r) ∧ _
    have c1 : (!(decide (x = b) && !(pl ps x).runs)) = true ↔ ¬ (x = b ∧ (pl ps x).runs = false) := by
      cases (pl ps x).runs <;> simp
    rw [Bool.and_eq_true, Bool.and_eq_true, c1]
    have sum_ : ∀ k, (bump g x).getD k 0 + times r k = g.getD k 0 + times (x :: r) k := fun k => by
      rw [bump_get (by omega), times_cons]; omega
    by_cases h2 : g.getD x 0 = (pl ps x).most
    · constructor
      · rintro ⟨_, q, _⟩
        rw [decide_eq_true h2] at q; exact absurd q (by simp)
      · rintro ⟨_, q⟩
        have := (q x hxl).2
        rw [times_cons, if_pos rfl] at this
        omega
    · have hm' : ∀ k, k < ps.length → (bump g x).getD k 0 ≤ (pl ps k).most := fun k hk => by
        rw [bump_get (by omega)]
        by_cases e : x = k
        · rw [if_pos e]; subst e; have := hm x hxl; omega
        · rw [if_neg e]; have := hm k hk; omega
      rw [fits_iff ps r x (bump g x) (by rw [bump_length]; exact hg) (fun y hy => hx y (List.mem_cons_of_mem _ hy)) hm', decide_eq_false h2]
      constructor
      · rintro ⟨a, _, c, d⟩
        exact ⟨⟨a, c⟩, fun k hk => by rw [← sum_ k]; exact d k hk⟩
      · rintro ⟨⟨a, c⟩, d⟩
        exact ⟨a, rfl, c, fun k hk => by rw [sum_ k]; exact d k hk⟩

/-! ### plays by number -/
theorem full_length (w : Week) : (full w).length = w.plays.length + 1 := rfl
theorem pl_zero (w : Week) : pl (full w) 0 = dark := rfl
theorem play_is {w : Week} {k : Nat} (h : k ≤ w.plays.length) : w.play k = if k = 0 then none else some (pl (full w) k) := by
  unfold Week.play
  by_cases e : k = 0
  · rw [if_pos e, if_pos e]
  · rw [if_neg e, if_neg e]
    obtain ⟨j, rfl⟩ : ∃ j, k = j + 1 := ⟨k - 1, by omega⟩
    have hj : j < w.plays.length := by omega
    show w.plays[j]? = some ((full w).getD (j + 1) dark)
    rw [List.getD_eq_getElem?_getD]
    show w.plays[j]? = some ((w.plays[j]?).getD dark)
    rw [List.getElem?_eq_getElem hj]; rfl
theorem rests_is {w : Week} {k : Nat} (h : k ≤ w.plays.length) : ((k != 0) && ((w.play k).any fun p => !p.runs)) = !(pl (full w) k).runs := by
  rw [play_is h]
  by_cases e : k = 0
  · subst e; rfl
  · rw [if_neg e, show (k != 0) = true from by simpa using e]; rfl

/-! ### wrong -/
def tired (w : Week) (b : Bill) (i : Nat) : Bool := 0 < i && (b.getD i 0 != 0 && (b.getD (i - 1) 0 == b.getD i 0 && ((w.play (b.getD i 0)).any fun p => !p.runs)))
def amiss (w : Week) (b : Bill) (x : Play × Nat) : Option (Nat × Nat) := if times b (x.2 + 1) < x.1.least then some (2, x.2 + 1) else if x.1.most < times b (x.2 + 1) then some (3, x.2 + 1) else none
theorem wrong_eq (w : Week) (b : Bill) : w.wrong b = match (List.range b.length).find? (tired w b) with
    | some i => some (1, i)
    | none => w.plays.zipIdx.findSome? (amiss w b) := rfl
theorem getD_le {b : Bill} {n : Nat} (h : ∀ x ∈ b, x ≤ n) (i : Nat) : b.getD i 0 ≤ n := by
  rw [List.getD_eq_getElem?_getD]
  cases e : b[i]? with
  | none => exact Nat.zero_le _
  | some x => exact h x (List.mem_of_getElem? e)
theorem tired_is {w : Week} {b : Bill} (h : ∀ x ∈ b, x ≤ w.plays.length) (i : Nat) : tired w b i = (decide (0 < i) && (decide (b.getD (i - 1) 0 = b.getD i 0) && !(pl (full w) (b.getD i 0)).runs)) := by
  unfold tired
  rw [← rests_is (getD_le h i)]
  cases decide (0 < i) <;> cases (b.getD i 0 != 0) <;> cases ((w.play (b.getD i 0)).any fun p => !p.runs) <;> simp <;> (apply Bool.eq_iff_iff.mpr; simp)
theorem chain_iff (w : Week) (b : Bill) : ∀ (r : Bill) (a : Nat), chain (full w) a r ↔ ∀ i, i < r.length → ¬ ((if i = 0 then a else r.getD (i - 1) 0) = r.getD i 0 ∧ (pl (full w) (r.getD i 0)).runs = false)
  | [], a => ⟨fun _ i h => absurd h (Nat.not_lt_zero i), fun _ => trivial⟩
  | x :: r, a => by
    show ¬ (x = a ∧ (pl (full w) x).runs = false) ∧ chain (full w) x r ↔ _
    rw [chain_iff w b r x]
    constructor
    · rintro ⟨h0, h⟩ i hi
      cases i with
      | zero =>
        rintro ⟨e1, e2⟩
        exact h0 ⟨(show a = x from e1).symm, e2⟩
      | succ j =>
        have := h j (by simpa using hi)
        rw [if_neg (Nat.succ_ne_zero j)]
        show ¬ ((x :: r).getD j 0 = r.getD j 0 ∧ _)
        cases j with
        | zero => exact this
        | succ l => exact this
    · intro h
      refine ⟨fun q => h 0 (by simp) ⟨q.1.symm, q.2⟩, fun i hi => ?_⟩
      have := h (i + 1) (by simpa using hi)
      rw [if_neg (Nat.succ_ne_zero i)] at this
      cases i with
      | zero => exact this
      | succ l => exact this
theorem find_none {n : Nat} {p : Nat → Bool} : (List.range n).find? p = none ↔ ∀ i, i < n → p i = false := by
  rw [List.find?_eq_none]
  exact ⟨fun h i hi => by simpa using h i (List.mem_range.mpr hi), fun h i hi => by simpa using h i (List.mem_range.mp hi)⟩
theorem find_some {p : Nat → Bool} : ∀ {n i : Nat}, i < n → p i = true → (∀ j, j < i → p j = false) → (List.range n).find? p = some i := by
  intro n i hi hp hb
  rw [List.find?_eq_some_iff_append]
  refine ⟨hp, List.range i, (List.range n).drop (i + 1), ?_, fun j hj => by rw [hb j (List.mem_range.mp hj)]; rfl⟩
  refine List.ext_getElem? fun j => ?_
  by_cases h1 : j < i
  · rw [List.getElem?_append_left (by simpa using h1), List.getElem?_range h1, List.getElem?_range (by omega)]
  · rw [List.getElem?_append_right (by simpa using h1), List.length_range]
    by_cases h2 : j = i
    · subst h2; rw [List.getElem?_range hi, Nat.sub_self]; rfl
    · obtain ⟨d, rfl⟩ : ∃ d, j = i + 1 + d := ⟨j - (i + 1), by omega⟩
      rw [show i + 1 + d - i = d + 1 from by omega, List.getElem?_cons_succ, List.getElem?_drop]
theorem zip_none {w : Week} {b : Bill} : w.plays.zipIdx.findSome? (amiss w b) = none ↔ ∀ k, 0 < k → k < (full w).length → (pl (full w) k).least ≤ times b k ∧ times b k ≤ (pl (full w) k).most := by
  rw [List.findSome?_eq_none_iff]
  have at_ : ∀ j (hj : j < w.plays.length), pl (full w) (j + 1) = w.plays[j] := fun j hj => by
    show (w.plays[j]?).getD dark = _
    rw [List.getElem?_eq_getElem hj]; rfl
  have none_ : ∀ (p : Play) (j : Nat), amiss w b (p, j) = none ↔ p.least ≤ times b (j + 1) ∧ times b (j + 1) ≤ p.most := fun p j => by
    unfold amiss
    show (if times b (j + 1) < p.least then _ else if p.most < times b (j + 1) then _ else _) = none ↔ _
    by_cases h1 : times b (j + 1) < p.least
    · rw [if_pos h1]; constructor
      · intro z; cases z
      · rintro ⟨a, _⟩; omega
    · rw [if_neg h1]
      by_cases h2 : p.most < times b (j + 1)
      · rw [if_pos h2]; constructor
        · intro z; cases z
        · rintro ⟨_, a⟩; omega
      · rw [if_neg h2]; exact ⟨fun _ => by omega, fun _ => rfl⟩
  constructor
  · intro h k h0 hk
    obtain ⟨j, rfl⟩ : ∃ j, k = j + 1 := ⟨k - 1, by omega⟩
    have hj : j < w.plays.length := by rw [full_length] at hk; omega
    rw [at_ j hj]
    exact (none_ _ _).mp (h (w.plays[j], j) (List.mem_zipIdx_iff_getElem?.mpr (by simp [List.getElem?_eq_getElem hj])))
  · rintro h ⟨p, j⟩ hx
    have e := List.mem_zipIdx_iff_getElem?.mp hx
    have e' : w.plays[j]? = some p := e
    obtain ⟨hj, e2⟩ := List.getElem?_eq_some_iff.mp e'
    have := h (j + 1) (by omega) (by rw [full_length]; omega)
    rw [at_ j hj, e2] at this
    exact (none_ _ _).mpr this
theorem zip_some {w : Week} {b : Bill} {k : Nat} {r : Nat × Nat} (h0 : 0 < k) (hk : k < (full w).length) (hb : ∀ j, 0 < j → j < k → (pl (full w) j).least ≤ times b j ∧ times b j ≤ (pl (full w) j).most)
    (hr : amiss w b (pl (full w) k, k - 1) = some r) : w.plays.zipIdx.findSome? (amiss w b) = some r := by
  obtain ⟨i, rfl⟩ : ∃ i, k = i + 1 := ⟨k - 1, by omega⟩
  have hi : i < w.plays.length := by rw [full_length] at hk; omega
  have at_ : ∀ j (hj : j < w.plays.length), pl (full w) (j + 1) = w.plays[j] := fun j hj => by
    show (w.plays[j]?).getD dark = _
    rw [List.getElem?_eq_getElem hj]; rfl
  rw [List.findSome?_eq_some_iff]
  refine ⟨(w.plays.take i).zipIdx, (w.plays[i], i), (w.plays.drop (i + 1)).zipIdx (i + 1), ?_, ?_, ?_⟩
  · have e : w.plays = w.plays.take i ++ w.plays[i] :: w.plays.drop (i + 1) := by
      rw [← List.drop_eq_getElem_cons hi, List.take_append_drop]
    conv => lhs; rw [e]
    rw [List.zipIdx_append, List.zipIdx_cons, List.length_take, Nat.min_eq_left (by omega), Nat.zero_add]
  · rw [← at_ i hi]; exact hr
  · rintro ⟨p, j⟩ hx
    have e := List.mem_zipIdx_iff_getElem?.mp hx
    have e' : (w.plays.take i)[j]? = some p := e
    have hj : j < i := by
      have := (List.getElem?_eq_some_iff.mp e').1
      rw [List.length_take] at this; omega
    rw [List.getElem?_take_of_lt hj] at e'
    obtain ⟨hj', e2⟩ := List.getElem?_eq_some_iff.mp e'
    have := hb (j + 1) (by omega) (by omega)
    rw [at_ j hj', e2] at this
    unfold amiss
    show (if times b (j + 1) < p.least then _ else if p.most < times b (j + 1) then _ else _) = none
    rw [if_neg (by omega), if_neg (by omega)]

theorem mem_bills {K : Nat} : ∀ {n : Nat} {b : Bill}, b ∈ bills K n ↔ b.length = n ∧ ∀ x ∈ b, x ≤ K
  | 0, b => by
    show b ∈ [[]] ↔ _
    rw [List.mem_singleton]
    constructor
    · rintro rfl; exact ⟨rfl, fun _ h => absurd h List.not_mem_nil⟩
    · rintro ⟨h, _⟩; exact List.length_eq_zero_iff.mp h
  | n + 1, b => by
    show b ∈ (List.range (K + 1)).flatMap (fun x => (bills K n).map fun r => x :: r) ↔ _
    rw [List.mem_flatMap]
    constructor
    · rintro ⟨x, hx, h⟩
      obtain ⟨r, hr, rfl⟩ := List.mem_map.mp h
      obtain ⟨h1, h2⟩ := mem_bills.mp hr
      refine ⟨by rw [List.length_cons, h1], fun y hy => ?_⟩
      rcases List.mem_cons.mp hy with rfl | hy
      · have := List.mem_range.mp hx; omega
      · exact h2 y hy
    · rintro ⟨h1, h2⟩
      cases b with
      | nil => cases h1
      | cons x r =>
        refine ⟨x, List.mem_range.mpr (by have := h2 x (by simp); omega), List.mem_map.mpr ⟨r, mem_bills.mpr ⟨by simpa using h1, fun y hy => h2 y (by simp [hy])⟩, rfl⟩⟩

theorem right_iff {w : Week} (hn : w.nights.length ≤ 6) {b : Bill} (hb : b.length = w.nights.length) (hx : ∀ x ∈ b, x ≤ w.plays.length) :
    w.right b = fits (full w) 0 (zeros (full w)) b := by
  have hx' : ∀ x ∈ b, x < (full w).length := fun x h => by have := hx x h; rw [full_length]; omega
  have e1 : w.right b = (w.wrong b).isNone := by
    unfold Week.right
    rw [show (b.length == w.nights.length) = true from by simpa using hb, show (b.all fun k => decide (k ≤ w.plays.length)) = true from by
      rw [List.all_eq_true]; exact fun x h => decide_eq_true (hx x h)]
    rfl
  rw [e1]
  have f := fits_iff (full w) b 0 (zeros (full w)) (by unfold zeros; rw [List.length_replicate]) hx' (fun k hk => by rw [zeros_get]; exact Nat.zero_le _)
  rw [chain_iff w b] at f
  refine Bool.eq_iff_iff.mpr (Iff.trans ?_ f.symm)
  rw [Option.isNone_iff_eq_none, wrong_eq]
  have dark0 : (pl (full w) 0).least ≤ times b 0 ∧ times b 0 ≤ (pl (full w) 0).most := by
    rw [pl_zero]
    have := times_le b 0
    show 0 ≤ _ ∧ _ ≤ 6
    omega
  have zz : (∀ k, k < (full w).length → (pl (full w) k).least ≤ (zeros (full w)).getD k 0 + times b k ∧ (zeros (full w)).getD k 0 + times b k ≤ (pl (full w) k).most) ↔ (∀ k, 0 < k → k < (full w).length → (pl (full w) k).least ≤ times b k ∧ times b k ≤ (pl (full w) k).most) := by
    constructor
    · intro h k _ hk
      have := h k hk
      rw [zeros_get] at this; omega
    · intro h k hk
      rw [zeros_get]
      by_cases e : k = 0
      · subst e; omega
      · have := h k (by omega) hk; omega
  rw [zz]
  have cc : (∀ i, i < b.length → ¬ ((if i = 0 then 0 else b.getD (i - 1) 0) = b.getD i 0 ∧ (pl (full w) (b.getD i 0)).runs = false)) ↔ (List.range b.length).find? (tired w b) = none := by
    rw [find_none]
    refine forall_congr' fun i => imp_congr_right fun hi => ?_
    rw [tired_is hx]
    by_cases e : i = 0
    · subst e
      rw [if_pos rfl]
      constructor
      · intro _; rfl
      · rintro _ ⟨q1, q2⟩
        rw [← q1] at q2
        rw [pl_zero] at q2
        exact absurd q2 (by decide)
    · rw [if_neg e, decide_eq_true (Nat.pos_of_ne_zero e)]
      cases (pl (full w) (b.getD i 0)).runs <;> simp
  rw [cc]
  cases (List.range b.length).find? (tired w b) with
  | some i => constructor
              · intro z; cases z
              · rintro ⟨z, _⟩; cases z
  | none => rw [zip_none]; constructor
            · intro z; exact ⟨rfl, z⟩
            · rintro ⟨_, z⟩; exact z
end Wp

/-! What is told of a bill, the best bill, and what a week keeps to. -/
namespace Wp
open Uw05

theorem getD_mid (p r : Bill) (x : Nat) : (p ++ x :: r).getD p.length 0 = x := by
  rw [List.getD_eq_getElem?_getD, List.getElem?_append_right (Nat.le_refl _), Nat.sub_self]; rfl
theorem takes_dark (t c : Nat) : takes dark t c = 0 := by
  unfold takes
  show [0].getD (min t 0) 0 * c / 100 = 0
  rw [Nat.min_zero]
  show 0 * c / 100 = 0
  rw [Nat.zero_mul]
theorem takes_at {w : Week} {p r : Bill} {x : Nat} (hx : x ≤ w.plays.length) : w.takes (p ++ x :: r) p.length = takes (pl (full w) x) (times p x) (w.nights.getD p.length 0) := by
  unfold Week.takes
  rw [getD_mid, List.take_left, play_is hx]
  by_cases e : x = 0
  · subst e; rw [if_pos rfl, pl_zero, takes_dark]
  · rw [if_neg e]; rfl
theorem range_cons (n : Nat) : List.range (n + 1) = 0 :: (List.range n).map Nat.succ := List.range_succ_eq_map
theorem took_gen (w : Week) : ∀ (r p : Bill) (g : List Nat), (∀ x ∈ r, x ≤ w.plays.length) → g.length = (full w).length → (∀ k, k < (full w).length → g.getD k 0 = times p k) →
    took w.nights (full w) p.length g r = (List.range r.length).map fun j => w.takes (p ++ r) (p.length + j)
  | [], p, g, _, _, _ => rfl
  | x :: r, p, g, hx, hl, hg => by
    have hxl : x ≤ w.plays.length := hx x (by simp)
    have hxf : x < (full w).length := by rw [full_length]; omega
    rw [List.length_cons, range_cons, List.map_cons, List.map_map]
    show takes (pl (full w) x) (g.getD x 0) (w.nights.getD p.length 0) :: took w.nights (full w) (p.length + 1) (bump g x) r = w.takes (p ++ x :: r) (p.length + 0) :: _
    rw [show List.length p + 0 = List.length p from rfl, takes_at (p := p) (r := r) hxl, hg x hxf]
    congr 1
    have h := took_gen w r (p ++ [x]) (bump g x) (fun y hy => hx y (List.mem_cons_of_mem _ hy)) (by rw [bump_length]; exact hl) (fun k hk => by
      rw [bump_get (by omega), hg k hk, times_append, times_cons, times_nil]; omega)
    rw [List.length_append] at h
    rw [show p.length + 1 = p.length + [x].length from rfl, h]
    refine List.map_congr_left fun j _ => ?_
    show w.takes (p ++ [x] ++ r) (p.length + 1 + j) = w.takes (p ++ x :: r) (p.length + (j + 1))
    rw [List.append_assoc, show p.length + 1 + j = p.length + (j + 1) from by omega]; rfl
theorem took_is {w : Week} {b : Bill} (hx : ∀ x ∈ b, x ≤ w.plays.length) : took w.nights (full w) 0 (zeros (full w)) b = (List.range b.length).map (w.takes b) := by
  rw [show (0 : Nat) = ([] : Bill).length from rfl, took_gen w b [] (zeros (full w)) hx (by unfold zeros; rw [List.length_replicate]) (fun k _ => by rw [zeros_get]; rfl)]
  refine List.map_congr_left fun j _ => ?_
  rw [List.nil_append, List.length_nil, Nat.zero_add]

def wk (w : Week) (b : Bill) (i : Nat) : Nat := match w.play (b.getD i 0) with
  | none => 0
  | some p => (if 0 < i ∧ b.getD (i - 1) 0 = b.getD i 0 then 0 else p.set) + (if i + 1 < b.length ∧ b.getD (i + 1) 0 = b.getD i 0 then 0 else p.strike)
theorem foldl_sum (l : List Nat) : ∀ a, l.foldl (fun a b => a + b) a = a + l.sum := by
  induction l with
  | nil => intro a; rw [List.sum_nil]; rfl
  | cons x r ih => intro a; rw [List.foldl_cons, ih, List.sum_cons]; omega
theorem works_eq (w : Week) (b : Bill) : w.works b = ((List.range b.length).map (wk w b)).sum := by
  show ((List.range b.length).map (wk w b)).foldl (fun a b => a + b) 0 = _
  rw [foldl_sum, Nat.zero_add]
theorem took_eq (w : Week) (b : Bill) : w.took b = ((List.range b.length).map (w.takes b)).sum := by
  show ((List.range b.length).map (w.takes b)).foldl (fun a b => a + b) 0 = _
  rw [foldl_sum, Nat.zero_add]
def struck (ps : List Play) (a : Nat) : Bill → Nat
  | [] => (pl ps a).strike
  | x :: _ => if a = x then 0 else (pl ps a).strike
theorem work_gen (w : Week) : ∀ (r p : Bill) (a : Nat), (∀ x ∈ r, x ≤ w.plays.length) → a = (if p.length = 0 then 0 else p.getD (p.length - 1) 0) →
    work (full w) a r = struck (full w) a r + ((List.range r.length).map fun j => wk w (p ++ r) (p.length + j)).sum
  | [], p, a, _, _ => by
    show change (full w) a 0 = (pl (full w) a).strike + 0
    unfold change
    by_cases e : a = 0
    · subst e; rfl
    · rw [if_neg e]; rfl
  | x :: r, p, a, hx, ha => by
    have hxl : x ≤ w.plays.length := hx x (by simp)
    rw [List.length_cons, range_cons, List.map_cons, List.map_map, List.sum_cons]
    show change (full w) a x + work (full w) x r = _
    rw [work_gen w r (p ++ [x]) x (fun y hy => hx y (List.mem_cons_of_mem _ hy)) (by
      rw [List.length_append, if_neg (by simp), List.length_singleton, Nat.add_sub_cancel]
      exact (getD_mid p [] x).symm)]
    have tail : ((List.range r.length).map fun j => wk w (p ++ [x] ++ r) ((p ++ [x]).length + j)) = (List.range r.length).map ((fun j => wk w (p ++ x :: r) (p.length + j)) ∘ Nat.succ) := by
      refine List.map_congr_left fun j _ => ?_
      show wk w (p ++ [x] ++ r) ((p ++ [x]).length + j) = wk w (p ++ x :: r) (p.length + (j + 1))
      rw [List.append_assoc, List.length_append, show p.length + [x].length + j = p.length + (j + 1) from by simp only [List.length_singleton]; omega]; rfl
    rw [tail, Nat.add_zero]
    have key : change (full w) a x + struck (full w) x r = struck (full w) a (x :: r) + wk w (p ++ x :: r) p.length := by
      unfold wk change
      rw [getD_mid, play_is hxl]
      show _ = (if a = x then 0 else (pl (full w) a).strike) + _
      have s0 : x = 0 → struck (full w) x r = 0 := fun e => by
        subst e
        cases r with
        | nil => rfl
        | cons y r => show (if 0 = y then 0 else (0 : Nat)) = 0; split <;> rfl
      by_cases e : x = 0
      · rw [if_pos e, s0 e, e, pl_zero]
        show (if a = 0 then 0 else (pl (full w) a).strike + 0) + 0 = _ + 0
        rfl
      · rw [if_neg e]
        have c1 : (0 < p.length ∧ (p ++ x :: r).getD (p.length - 1) 0 = x) ↔ a = x := by
          by_cases hp : p.length = 0
          · rw [if_pos hp] at ha
            constructor
            · rintro ⟨h, _⟩; omega
            · intro h; omega
          · rw [if_neg hp] at ha
            have e2 : (p ++ x :: r).getD (p.length - 1) 0 = p.getD (p.length - 1) 0 := by
              rw [List.getD_eq_getElem?_getD, List.getD_eq_getElem?_getD, List.getElem?_append_left (by omega)]
            rw [e2, ← ha]
            exact ⟨fun h => h.2, fun h => ⟨by omega, h⟩⟩
        have c2 : struck (full w) x r = if p.length + 1 < (p ++ x :: r).length ∧ (p ++ x :: r).getD (p.length + 1) 0 = x then 0 else (pl (full w) x).strike := by
          cases r with
          | nil =>
            rw [if_neg (by rintro ⟨h, _⟩; rw [List.length_append] at h; simp only [List.length_cons, List.length_nil] at h; omega)]; rfl
          | cons y r =>
            have e3 : (p ++ x :: y :: r).getD (p.length + 1) 0 = y := by
              rw [List.getD_eq_getElem?_getD, List.getElem?_append_right (by omega), Nat.add_sub_cancel_left]; rfl
            rw [e3]
            show (if x = y then 0 else (pl (full w) x).strike) = _
            have hl : p.length + 1 < (p ++ x :: y :: r).length := by rw [List.length_append]; simp only [List.length_cons]; omega
            by_cases h : x = y
            · rw [if_pos h, if_pos ⟨hl, h.symm⟩]
            · rw [if_neg h, if_neg (fun q => h q.2.symm)]
        rw [c2]
        show _ = _ + ((if 0 < p.length ∧ (p ++ x :: r).getD (p.length - 1) 0 = x then 0 else (pl (full w) x).set) + (if p.length + 1 < (p ++ x :: r).length ∧ (p ++ x :: r).getD (p.length + 1) 0 = x then 0 else (pl (full w) x).strike))
        by_cases h : a = x
        · rw [if_pos h, if_pos h, if_pos (c1.mpr h), Nat.zero_add, Nat.zero_add]
        · rw [if_neg h, if_neg h, if_neg (fun q => h (c1.mp q))]; omega
    omega
theorem work_is {w : Week} {b : Bill} (hx : ∀ x ∈ b, x ≤ w.plays.length) : work (full w) 0 b = w.works b := by
  rw [work_gen w b [] 0 hx rfl, works_eq]
  have e : struck (full w) 0 b = 0 := by
    cases b with
    | nil => rfl
    | cons y r => show (if 0 = y then 0 else (0 : Nat)) = 0; split <;> rfl
  rw [e, Nat.zero_add]
  congr 1
  refine List.map_congr_left fun j _ => ?_
  rw [List.nil_append, List.length_nil, Nat.zero_add]

/-! ### the best -/
theorem best_is {w : Week} (hn : w.nights.length ≤ 6) : w.best = opt (look w.nights (full w) w.nights.length 0 0 (zeros (full w))) := by
  rw [look_is w.nights (full w) w.plays.length rfl]
  unfold Week.best Week.all cand
  have e1 : (bills w.plays.length w.nights.length).filter w.right = (bills w.plays.length w.nights.length).filter (fits (full w) 0 (zeros (full w))) := List.filter_congr fun b hb => by
    obtain ⟨h1, h2⟩ := mem_bills.mp hb
    exact right_iff hn h1 h2
  rw [e1]
  congr 1
  refine List.map_congr_left fun b hb => ?_
  obtain ⟨h1, h2⟩ := mem_bills.mp (List.mem_filter.mp hb).1
  rw [val_is, took_is h2, work_is h2]
  unfold Week.left
  rw [took_eq]
theorem fold_mem {v : Bill → Int} : ∀ {l : List Bill} {x : Best}, (l.map fun b => some (⟨v b, 1, b⟩ : Best)).foldl better none = some x → x.bill ∈ l ∧ x.left = v x.bill
  | [], x, h => nomatch h
  | b :: l, x, h => by
    rw [List.map_cons, List.foldl_cons, none_better, fold_better] at h
    cases e : (l.map fun b => some (⟨v b, 1, b⟩ : Best)).foldl better none with
    | none =>
      rw [e, better_none] at h
      cases h
      exact ⟨by simp, rfl⟩
    | some y =>
      obtain ⟨h1, h2⟩ := fold_mem e
      rw [e, better_some] at h
      split at h
      · cases h; exact ⟨List.mem_cons_of_mem _ h1, h2⟩
      · split at h
        · cases h; exact ⟨by simp, rfl⟩
        · cases h; exact ⟨by simp, rfl⟩
theorem best_bill {w : Week} {x : Best} (h : w.best = some x) : x.bill.length = w.nights.length ∧ ∀ k ∈ x.bill, k ≤ w.plays.length := by
  obtain ⟨h1, _⟩ := fold_mem (v := w.left) h
  exact mem_bills.mp (List.mem_filter.mp h1).1

/-! ### what a week keeps to -/
structure PlayOk (p : Play) (n : Nat) : Prop where
  b1 : 1 ≤ p.brings.length
  b2 : p.brings.length ≤ 6
  b3 : ∀ x ∈ p.brings, x ≤ 100000
  set : p.set ≤ 100000
  strike : p.strike ≤ 100000
  least : p.least ≤ p.most
  most : p.most ≤ n
structure WeekOk (w : Week) : Prop where
  n6 : w.nights.length ≤ 6
  come : ∀ x ∈ w.nights, x ≤ 300
  p4 : w.plays.length ≤ 4
  plays : ∀ p ∈ w.plays, PlayOk p w.nights.length
theorem playOk_iff {w : Week} {p : Play} : playOk w p = true ↔ PlayOk p w.nights.length := by
  unfold playOk
  simp only [Bool.and_eq_true, decide_eq_true_eq, List.all_eq_true]
  constructor
  · rintro ⟨a, b, c, d, e, f, g⟩; exact ⟨a, b, c, d, e, f, g⟩
  · rintro ⟨a, b, c, d, e, f, g⟩; exact ⟨a, b, c, d, e, f, g⟩
theorem dark_ok (n : Nat) : 1 ≤ dark.brings.length ∧ dark.brings.length ≤ 6 ∧ (∀ x ∈ dark.brings, x ≤ 100000) ∧ dark.set ≤ 100000 ∧ dark.strike ≤ 100000 := by
  refine ⟨by decide, by decide, fun x hx => ?_, by decide, by decide⟩
  have : x = 0 := by simpa [dark] using hx
  omega
theorem init_ok : WeekOk init := ⟨by decide, fun x h => absurd h List.not_mem_nil, by decide, fun x h => absurd h List.not_mem_nil⟩
theorem step_ok {w : Week} (h : WeekOk w) (c : Call) : WeekOk (step w c).1 := by
  cases c with
  | begins n =>
    show WeekOk (if n = [] ∨ NIGHTS < n.length ∨ (n.all fun x => decide (x ≤ HUNDRED)) = false then (w, ok (-1)) else (⟨n, []⟩, ok (n.length : Nat))).1
    by_cases q : n = [] ∨ NIGHTS < n.length ∨ (n.all fun x => decide (x ≤ HUNDRED)) = false
    · rw [if_pos q]; exact h
    · rw [if_neg q]
      refine ⟨?_, fun x hx => ?_, by show 0 ≤ 4; decide, fun p hp => absurd hp List.not_mem_nil⟩
      · show n.length ≤ 6
        exact Nat.le_of_not_lt fun z => q (.inr (.inl z))
      · have : (n.all fun x => decide (x ≤ HUNDRED)) = true := by
          cases e : (n.all fun x => decide (x ≤ HUNDRED))
          · exact absurd (.inr (.inr e)) q
          · rfl
        have := List.all_eq_true.mp this x hx
        exact of_decide_eq_true this
  | play p =>
    show WeekOk (if playOk w p = false then (w, ok (-1)) else if PLAYS ≤ w.plays.length then (w, ok (-5)) else ({ w with plays := w.plays ++ [p] }, ok (w.plays.length + 1 : Nat))).1
    by_cases q : playOk w p = false
    · rw [if_pos q]; exact h
    · rw [if_neg q]
      by_cases q2 : PLAYS ≤ w.plays.length
      · rw [if_pos q2]; exact h
      · rw [if_neg q2]
        refine ⟨h.n6, h.come, ?_, fun x hx => ?_⟩
        · show (w.plays ++ [p]).length ≤ 4
          rw [List.length_append]
          have : ¬ 4 ≤ w.plays.length := q2
          simp only [List.length_singleton]; omega
        · rcases List.mem_append.mp hx with hx | hx
          · exact h.plays x hx
          · rw [List.mem_singleton.mp hx]
            have e : playOk w p = true := by
              cases e : playOk w p
              · exact absurd e q
              · rfl
            exact playOk_iff.mp e
  | best => exact h
  | check b =>
    show WeekOk (if b.length ≠ w.nights.length ∨ (b.all fun k => decide (k ≤ w.plays.length)) = false then (w, ok (-1)) else (w, _)).1
    split <;> exact h
  | night i n =>
    show WeekOk (if w.nights.length ≤ i then (w, ok (-2)) else if HUNDRED < n then (w, ok (-1)) else ({ w with nights := w.nights.set i n }, ok (w.nights.getD i 0 : Nat))).1
    by_cases q : w.nights.length ≤ i
    · rw [if_pos q]; exact h
    · rw [if_neg q]
      by_cases q2 : HUNDRED < n
      · rw [if_pos q2]; exact h
      · rw [if_neg q2]
        refine ⟨?_, fun x hx => ?_, h.p4, fun p hp => ?_⟩
        · show (w.nights.set i n).length ≤ 6
          rw [List.length_set]; exact h.n6
        · rcases List.mem_or_eq_of_mem_set hx with hx | hx
          · exact h.come x hx
          · subst hx; exact Nat.le_of_not_lt q2
        · show PlayOk p (w.nights.set i n).length
          rw [List.length_set]; exact h.plays p hp
  | drop k =>
    show WeekOk (if k < 1 ∨ w.plays.length < k then (w, ok (-2)) else ({ w with plays := w.plays.eraseIdx (k - 1) }, ok (w.plays.length - 1 : Nat))).1
    by_cases q : k < 1 ∨ w.plays.length < k
    · rw [if_pos q]; exact h
    · rw [if_neg q]
      refine ⟨h.n6, h.come, ?_, fun p hp => h.plays p (List.mem_of_mem_eraseIdx hp)⟩
      show (w.plays.eraseIdx (k - 1)).length ≤ 4
      have := h.p4
      rw [List.length_eraseIdx]; split <;> omega
end Wp

/-! Rules that the layer lacks: a dict whose keys are (a number, a number, a tuple of numbers); max with a default; a tuple once. -/
namespace Wr
open PySem PySem.Spec PyProof.Rows L2

/-! ### the keys -/
def nk (n b : Nat) (g : List Nat) : NestedKey := .tup [.num n, .num b, .tup (g.map fun k : Nat => NestedKey.num (k : Int))]
def iv (g : List Nat) : List V := g.map fun k : Nat => V.int (k : Int)
/-- at a stands the tuple (n, b, g), g a tuple of its own -/
def KeyAt (H : Hp) (a : Addr) (n b : Nat) (g : List Nat) : Prop := ∃ t, H a = some (.tup [.int n, .int b, .ref t]) ∧ H t = some (.tup (iv g))
theorem KeyAt.keeps {H H' : Hp} {a : Addr} {n b : Nat} {g : List Nat} (k : KeyAt H a n b g) (h : ∀ c xs, H c = some (.tup xs) → H' c = some (.tup xs)) : KeyAt H' a n b g :=
  let ⟨t, h1, h2⟩ := k
  ⟨t, h _ _ h1, h _ _ h2⟩
theorem depth_nums : ∀ g : List Nat, NestedKey.depthAll (g.map fun k : Nat => NestedKey.num (k : Int)) = 0
  | [] => by rw [List.map_nil, NestedKey.depthAll]
  | x :: r => by rw [List.map_cons, NestedKey.depthAll, depth_nums r, NestedKey.depth]; rfl
theorem nk_depth (n b : Nat) (g : List Nat) : (nk n b g).depth ≤ 8 := by
  unfold nk
  rw [NestedKey.depth, NestedKey.depthAll, NestedKey.depthAll, NestedKey.depthAll, NestedKey.depthAll, NestedKey.depth, NestedKey.depth, NestedKey.depth, depth_nums]
  decide
theorem map_num_inj : ∀ {g g' : List Nat}, (g.map fun k : Nat => NestedKey.num (k : Int)) = (g'.map fun k : Nat => NestedKey.num (k : Int)) → g = g'
  | [], [], _ => rfl
  | [], z :: zs, e => by simp at e
  | z :: zs, [], e => by simp at e
  | x :: xs, y :: ys, e => by
    simp only [List.map_cons] at e
    injection e with e1 e2
    injection e1 with e1
    rw [map_num_inj e2, Int.ofNat.inj e1]
theorem nk_inj {n b n' b' : Nat} {g g' : List Nat} (e : nk n b g = nk n' b' g') : n = n' ∧ b = b' ∧ g = g' := by
  unfold nk at e
  injection e with e
  injection e with e1 e
  injection e with e2 e
  injection e with e3 _
  injection e1 with e1
  injection e2 with e2
  injection e3 with e3
  exact ⟨Int.ofNat.inj e1, Int.ofNat.inj e2, map_num_inj e3⟩
theorem nested_ints {h : Heap} : ∀ {g : List Nat} {us : List Value}, Vals (iv g) us → NestedAll h (g.map fun k : Nat => NestedKey.num (k : Int)) us
  | [], _, r => by
    cases r
    exact .nil
  | x :: g, _, r => by
    cases r with
    | cons a t =>
      obtain ⟨tk, rfl⟩ := a
      exact .cons (.int _ _) (nested_ints t)
section
variable {P : Program} {w : World} {a : Addr} {H : Hp} {h : Heap}
theorem key_is {n b : Nat} {g : List Nat} (ok : HOk P w H h) (k : KeyAt H a n b g) : (nestedKind P w).is h (nk n b g) a := by
  obtain ⟨t, h1, h2⟩ := k
  obtain ⟨_, its, r, o, o1, o2, m, o3⟩ := (show ObjOk P w H h a (.tup [.int n, .int b, .ref t]) from ok a _ h1)
  obtain ⟨_, its', r', o', p1, p2, m', p3⟩ := (show ObjOk P w H h t (.tup (iv g)) from ok t _ h2)
  refine ⟨.tup o1 o2 o3 ?_, nk_depth n b g⟩
  cases r with
  | cons a1 r => cases r with
    | cons a2 r => cases r with
      | cons a3 r =>
        cases r
        obtain ⟨t1, rfl⟩ := a1
        obtain ⟨t2, rfl⟩ := a2
        obtain rfl := (show _ = Value.ref t from a3)
        exact .cons (.int _ _) (.cons (.int _ _) (.cons (.tup p1 p2 p3 (by simpa using nested_ints r')) .nil))
end

/-! ### the dict -/
abbrev Ents := List (NestedKey × Addr × Value)
def KnO (P : Program) (w : World) (d : Addr) (xs : Ents) : HO :=
  .ext fun h => ∃ o es ep, h.get? d = some o ∧ o.ExactDict ∧ o.data = .dict es ep ∧ es.toList = xs.map (entryOfKey (nestedKind P w))
structure KnAt (P : Program) (w : World) (H : Hp) (d : Addr) (xs : Ents) : Prop where
  at_ : H d = some (KnO P w d xs)
  low : Eq (d == sysModules) false
  nd : (xs.map (·.1)).Nodup
  keys : ∀ x ∈ xs, ∃ n b g, x.1 = nk n b g ∧ KeyAt H x.2.1 n b g
section
variable {P : Program} {w : World} {H H' : Hp} {h : Heap} {d : Addr} {xs : Ents}
theorem KnAt.keeps (k : KnAt P w H d xs) (hd : H' d = some (KnO P w d xs)) (ht : ∀ c ys, H c = some (.tup ys) → H' c = some (.tup ys)) : KnAt P w H' d xs :=
  ⟨hd, k.low, k.nd, fun x hx => let ⟨n, b, g, e, q⟩ := k.keys x hx; ⟨n, b, g, e, q.keeps ht⟩⟩
theorem KnAt.dict (k : KnAt P w H d xs) (ok : HOk P w H h) : h.DictOfH (nestedKind P w) d xs := by
  obtain ⟨⟨o, es, ep, h1, h2, h3, h4⟩, _⟩ := (show ObjOk P w H h d (KnO P w d xs) from ok d _ k.at_)
  refine ⟨o, es, ep, h1, h2, h3, h4, fun x hx => ?_, k.nd⟩
  obtain ⟨n, b, g, e, q⟩ := k.keys x hx
  rw [e]
  exact key_is ok q
theorem kn_ok (h1 : h.DictOfH (nestedKind P w) d xs) : ObjOk P w H h d (KnO P w d xs) := by
  obtain ⟨o, es, ep, e1, e2, e3, e4, _, _⟩ := h1
  refine ⟨⟨o, es, ep, e1, e2, e3, e4⟩, ⟨o, e1⟩, fun ha hb ⟨o', es', ep', f1, f2, f3, f4⟩ hk => ⟨o', es', ep', hk _ f1, f2, f3, f4⟩⟩
theorem at_none {k : NestedKey} (hn : atKey xs k = none) : ∀ x ∈ xs, x.1 ≠ k := fun x hx e => by
  unfold atKey at hn
  rw [Option.map_eq_none_iff] at hn
  exact List.find?_eq_none.mp hn x hx (decide_eq_true e)
theorem mem_stored {k : NestedKey} {ka : Addr} {u : Value} {x : NestedKey × Addr × Value} (h : x ∈ storedH xs k ka u) : x ∈ xs ∨ (x = (k, ka, u)) ∨ ∃ y ∈ xs, y.1 = k ∧ x = (k, y.2.1, u) := by
  unfold storedH at h
  split at h
  · obtain ⟨y, hy, rfl⟩ := List.mem_map.mp h
    unfold putAt
    by_cases e : y.1 = k
    · rw [if_pos e]
      exact .inr (.inr ⟨y, hy, e, by rw [e]⟩)
    · rw [if_neg e]
      exact .inl hy
  · rcases List.mem_append.mp h with h | h
    · exact .inl h
    · exact .inr (.inl (by simpa using h))
theorem stored_nd {k : NestedKey} {ka : Addr} {u : Value} (nd : (xs.map (·.1)).Nodup) : ((storedH xs k ka u).map (·.1)).Nodup := by
  cases hn : atKey xs k with
  | some p => rw [storedH_old hn, keys_map_putAt]; exact nd
  | none =>
    rw [storedH_new hn, List.map_append, List.nodup_append]
    refine ⟨nd, by simp, fun y hy z hz => ?_⟩
    have : z = k := by simpa using hz
    subst this
    rintro rfl
    obtain ⟨x, hx, e⟩ := List.mem_map.mp hy
    exact at_none hn x hx e
theorem at_stored (k : NestedKey) (ka : Addr) (u : Value) : ∃ kb, atKey (storedH xs k ka u) k = some (kb, u) := by
  cases hn : atKey xs k with
  | none =>
    rw [storedH_new hn]
    unfold atKey at hn ⊢
    rw [Option.map_eq_none_iff] at hn
    rw [List.find?_append, hn]
    exact ⟨ka, by simp⟩
  | some p =>
    rw [storedH_old hn]
    refine ⟨p.1, ?_⟩
    clear ka
    induction xs with
    | nil => simp [atKey] at hn
    | cons y r ih =>
      by_cases e : y.1 = k
      · have hp : y.2 = p := by simpa [atKey, List.find?_cons, e] using hn
        simp [atKey, putAt, List.find?_cons, e, ← hp]
      · have hr : atKey r k = some p := by simpa [atKey, List.find?_cons, e] using hn
        have := ih hr
        simpa [atKey, putAt, List.find?_cons, e] using this
/-- an entry is put -/
theorem KnAt.put {k : NestedKey} {n b : Nat} {g : List Nat} {ka : Addr} {u : Value} (kn : KnAt P w H d xs) (e : k = nk n b g) (ke : KeyAt H ka n b g) :
    KnAt P w (upd H d (KnO P w d (storedH xs k ka u))) d (storedH xs k ka u) := by
  have tups : ∀ c ys, H c = some (.tup ys) → upd H d (KnO P w d (storedH xs k ka u)) c = some (.tup ys) := fun c ys q => by
    rw [upd_ne (ne_of q kn.at_ (fun z => nomatch z))]; exact q
  refine ⟨upd_same, kn.low, stored_nd kn.nd, fun x hx => ?_⟩
  rcases mem_stored hx with hx | rfl | ⟨y, hy, e1, rfl⟩
  · obtain ⟨n', b', g', e', q⟩ := kn.keys x hx
    exact ⟨n', b', g', e', q.keeps tups⟩
  · exact ⟨n, b, g, e, ke.keeps tups⟩
  · obtain ⟨n', b', g', e', q⟩ := kn.keys y hy
    exact ⟨n', b', g', e1.symm.trans e', q.keeps tups⟩
end
theorem at_mem {xs : Ents} {k : NestedKey} {p : Addr × Value} (h : atKey xs k = some p) : (k, p) ∈ xs := by
  unfold atKey at h
  obtain ⟨x, hx, e⟩ := Option.map_eq_some_iff.mp h
  have h1 := List.mem_of_find?_eq_some hx
  have h2 := List.find?_some hx
  have h3 : x.1 = k := of_decide_eq_true h2
  rw [← h3, ← e]
  exact h1

/-! ### its rules -/
def tKNotIn (P : Program) (w : World) (ty td : TE) : TE := fun σ H Q => ty σ H fun y H1 => td σ H1 fun x H2 => ∃ a xs n b g ka, x = .ref a ∧ KnAt P w H2 a xs ∧ y = .ref ka ∧ KeyAt H2 ka n b g ∧ Q (.bl (!(atKey xs (nk n b g)).isSome)) H2
def tKGet (P : Program) (w : World) (td ty : TE) : TE := fun σ H Q => td σ H fun x H1 => ty σ H1 fun y H2 => ∃ a xs n b g ka kb p, x = .ref a ∧ KnAt P w H2 a xs ∧ y = .ref ka ∧ KeyAt H2 ka n b g ∧ atKey xs (nk n b g) = some (kb, Value.ref p) ∧ Q (.ref p) H2
def sKPut (P : Program) (w : World) (td ty tv : TE) : TS := fun D σ H => tv σ H fun v H1 => td σ H1 fun x H2 => ty σ H2 fun y H3 => ∃ a xs n b g ka p, x = .ref a ∧ v = .ref p ∧ KnAt P w H3 a xs ∧ y = .ref ka ∧ KeyAt H3 ka n b g ∧
  xs.length ≤ sizeLine ∧ D.nx σ (upd H3 a (KnO P w a (storedH xs (nk n b g) ka (.ref p))))
def tKNew (P : Program) (w : World) : TE := fun _ H Q => ∀ p, H p = none → (p == sysModules) = false → Q (.ref p) (upd H p (KnO P w p []))
section
variable {X : Cx} {td ty tv : TE} {o i value : Expr} {pos pos' : Pos}
theorem pe_knew : PE X (.Dict [] [] pos) (tKNew X.prog X.w) := ⟨fun pins s σ H Q I h =>
  wpAny_Dict_empty ⟨.ref s.heap.objs.size, _, I.laid (a := s.heap.objs.size) (o := KnO X.prog X.w s.heap.objs.size []) (t' := s.toks) (fun _ _ q => Heap.get?_push_of_some _ q) (Nat.le_refl _) (kn_ok (Heap.DictOfH.new s.heap)), rfl,
    h _ (I.hok.fresh (Nat.le_refl _)) (beq_eq_false_iff_ne.mpr (Ne.symm (Nat.ne_of_lt I.big)))⟩⟩
theorem pc_knotin (hu : X.A.units + 64 < cLine) (hi : PE X i ty) (ho : PE X o td) : PC X .NotIn i o (tKNotIn X.prog X.w ty td) := by
  refine ⟨fun pins s σ H Q I h => ?_⟩
  refine thn (hi.run pins s σ H _ I h) fun v1 s1 ⟨y, H1, I1, ry, q1⟩ => thn (ho.run pins s1 σ H1 _ I1 q1) fun v2 s2 ⟨x, H2, I2, rx, a, xs, n, b, g, ka, ex, kn, ey, ke, q2⟩ => ?_
  subst ex ey
  obtain rfl : v2 = Value.ref a := rx
  obtain rfl : v1 = Value.ref ka := ry
  have hroom : (nestedKind X.prog X.w).room X.A.in1 := by show X.A.units + 1 + 8 < cLine; omega
  exact wpAny_notIn_heap hroom (key_is I2.hok ke) kn.low (kn.dict I2.hok) ⟨.bl (!(atKey xs (nk n b g)).isSome), H2, I2.tok _, rfl, q2⟩
theorem pe_kget (hu : X.A.units + 64 < cLine) (ho : PE X o td) (hi : PE X i ty) (hs : NoSl i) : PE X (.Subscript o i pos) (tKGet X.prog X.w td ty) := by
  refine ⟨fun pins s σ H Q I h => ?_⟩
  refine subD_of PySem.F.slot_dict_getitem.lookup hs (thn (ho.run pins s σ H _ I h) fun v1 s1 ⟨x, H1, I1, rx, q1⟩ => thn (hi.run pins s1 σ H1 _ I1 q1) fun v2 s2 ⟨y, H2, I2, ry, a, xs, n, b, g, ka, kb, p, ex, kn, ey, ke, hk, q2⟩ => ?_)
  subst ex ey
  obtain rfl : v1 = Value.ref a := rx
  obtain rfl : v2 = Value.ref ka := ry
  have hroom : (nestedKind X.prog X.w).room X.A.in1 := by show X.A.units + 1 + 8 < cLine; omega
  exact ⟨(kn.dict I2.hok).typeIs, wpAny_getItem_heap hroom (key_is I2.hok ke) (kn.dict I2.hok) hk ⟨.ref p, H2, I2.tok _, rfl, q2⟩⟩
theorem ps_kput (hu : X.A.units + 64 < cLine) (ho : PE X o td) (hi : PE X i ty) (hv : PE X value tv) (hs : swapsWith value (some (.Subscript o i pos')) pos.line X.env = pure false) :
    PS X (.Assign [.Subscript o i pos'] value pos) (sKPut X.prog X.w td ty tv) := by
  refine ⟨fun pins s σ H D I h => ?_⟩
  refine wpAny_Assign_Subscript (thn (hv.run pins s σ H _ I h) fun v3 s1 ⟨v, H1, I1, rv, q1⟩ => thn (ho.run pins s1 σ H1 _ I1 q1) fun v1 s2 ⟨x, H2, I2, rx, q2⟩ => thn (hi.run pins s2 σ H2 _ I2 q2) fun v2 s3 ⟨y, H3, I3, ry, a, xs, n, b, g, ka, p, ex, ev, kn, ey, ke, hl, q3⟩ => ?_) hs
  subst ex ev ey
  obtain rfl : v1 = Value.ref a := rx
  obtain rfl : v2 = Value.ref ka := ry
  obtain rfl : v3 = Value.ref p := rv
  have hroom : (nestedKind X.prog X.w).room X.A.in1 := by show X.A.units + 1 + 8 < cLine; omega
  refine wpAny_setItem_heap (hsz := hl) hroom (key_is I3.hok ke) (kn.dict I3.hok) fun h' dd hsb => ?_
  have he : ∃ q, h'.get? a = some q := let ⟨q, _, _, hq, _⟩ := dd; ⟨q, hq⟩
  exact ⟨σ, _, d_write I3 (by rw [kn.at_]; exact True.intro) hsb he (kn_ok dd), q3⟩
end

/-! ### max(xs, default=d) -/
def rMaxD (K : PySem.W.Frag) : List V → List V → Hp → VK → Prop := fun vs zs H Q => ∃ (a : Addr) (ns : List Int) (d : Int), vs = [V.ref a] ∧ zs = [V.int d] ∧ SqL K H a (ns.map V.int) ∧
  ∀ m, (ns = [] → m = d) → (ns ≠ [] → m ∈ ns ∧ ∀ y ∈ ns, y ≤ m) → Q (.int m) H
theorem maxOf_ge : ∀ (ys : List Int) (y : Int), (PySem.W.maxOf y ys ∈ y :: ys) ∧ ∀ z ∈ y :: ys, z ≤ PySem.W.maxOf y ys
  | [], y => ⟨by simp [PySem.W.maxOf], fun z hz => by
    have : z = y := by simpa using hz
    subst this
    exact Int.le_refl _⟩
  | x :: r, y => by
    have e : PySem.W.maxOf y (x :: r) = PySem.W.maxOf (if y < x then x else y) r := by
      show List.foldl _ (if decide (y < x) = true then x else y) r = List.foldl _ _ r
      rw [show (if decide (y < x) = true then x else y) = if y < x then x else y from by simp only [decide_eq_true_eq]]
    obtain ⟨h1, h2⟩ := maxOf_ge r (if y < x then x else y)
    rw [e]
    refine ⟨?_, fun z hz => ?_⟩
    · rcases List.mem_cons.mp h1 with h1 | h1
      · rw [h1]; split <;> simp
      · exact List.mem_cons_of_mem _ (List.mem_cons_of_mem _ h1)
    · have h0 := h2 _ (List.mem_cons_self)
      rcases List.mem_cons.mp hz with rfl | hz
      · refine Int.le_trans ?_ h0
        split <;> omega
      · rcases List.mem_cons.mp hz with rfl | hz
        · refine Int.le_trans ?_ h0
          split <;> omega
        · exact h2 z (List.mem_cons_of_mem _ hz)
section
variable {X : Cx}
theorem cr_maxD0 (hc : X.calm = true) (hu : X.A.units + 64 < cLine) : CallRK X (.builtin "max") [Str.ofString "default"] (rMaxD X.K) := by
  intro pins s σ H vs kvs us ws Q I r rk h
  obtain ⟨a, ns, d, rfl, rfl, hs, q⟩ := h
  obtain ⟨its, rv, hl, hsize⟩ := I.list hs
  rw [Vals.ref1 r]
  obtain ⟨u1, rfl, t1, rfl⟩ := vals1 rk
  have hh : PySem.W.HoldAll s.heap its.toArray.toList ns := PySem.W.HoldAll.of_ints rv.ints
  refine PySem.W.max_list_datum_default (I.ok.hd hc) hl.isList hh (by show X.A.units + 1 + 0 < cLine; omega) (fun e h' tk hk => ?_) fun y ys i v h' tk e hv hd hk => ?_
  · exact ⟨.int d, H, I.kept hk, ⟨_, rfl⟩, q d (fun _ => rfl) fun z => absurd e z⟩
  · subst e
    obtain ⟨t, rfl⟩ := PySem.W.int_of_holds hd
    exact ⟨.int _, H, I.kept hk, ⟨_, rfl⟩, q _ (fun z => nomatch z) fun _ => maxOf_ge ys y⟩
end
/-! ### t * 1 is t itself -/
theorem tup_once (l : Addr) (items : Array Value) (n : Nat) (dd : Option Addr) (sl : Array (Option Value)) (u : Tok) (c1 : (items.isEmpty || (1 : Int) == 1) = true) :
    Meets (Builtin.«tuple.__mul__» ⟨[.ref l, .int 1 u], []⟩) (fun _ R s => s.heap.get? l = some { cls := .type "tuple", dict := dd, data := .seq items n, slots := sl } ∧ R (.ok (.ret (Value.ref l))) s) :=
  .of_wp fun prog w A R s h => by
    obtain ⟨hp, g, d, tk, os⟩ := s
    obtain ⟨hl, h⟩ := h
    have f1 := AutoSeq1.idx_int
    wp_walk using wpAny_loadPart' hl
    exact ⟨_, rfl, h⟩
def rRepA (K : PySem.W.Frag) : R2 := fun x y H Q => ∃ l k xs, x = .ref l ∧ y = .int k ∧ SqT K H l xs ∧ xs ≠ [] ∧ 1 ≤ k ∧ k ≤ 1000 ∧ xs.length ≤ 1000 ∧ (k = 1 → Q (.ref l) H) ∧ (k ≠ 1 → ∀ p, H p = none → Q (.ref p) (upd H p (.tup (List.replicate k.toNat xs).flatten)))
theorem op_repA {X : Cx} : OpR X (binaryOp .Mult) (rRepA X.K) := by
  intro pins s σ H x y v u Q I hx hy h
  obtain ⟨l, k, xs, rfl, rfl, hT, hne, h1, h2, hz, q1, q2⟩ := h
  by_cases hk : k = 1
  · subst hk
    cases hx
    obtain ⟨t, rfl⟩ := hy
    obtain ⟨its, r, ⟨ob, ho, hc, n, hd⟩, hs⟩ := I.tuple hT
    obtain ⟨cls, dd, data, sl⟩ := ob
    simp only at hc hd
    subst hc hd
    exact wpAny_binaryOp_repeat_ref (T := "tuple") (U := "int") (by decide) ⟨_, ho, rfl⟩ (fun s' => typeIs_int s' 1 t) noFill_tuple_mul F.fills_int_mul F.slot_int_rmul repeat_tuple F.slot_int_index.lookup
      (call_meets F.slot_int_rmul (typeIs_int s 1 t) F.entry_int_rmul (F.args_int_rmul_2 _ _) (int_rmul_tuple 1 t l its.toArray n dd sl)
        ⟨ho, rfl, ⟨_, ho, rfl⟩, call_meets F.slot_tuple_mul ⟨_, ho, rfl⟩ F.entry_tuple_mul (F.args_tuple_mul_2 _ _) (tup_once l its.toArray n dd sl t (by simp)) ⟨ho, ⟨.ref l, H, I, rfl, q1 rfl⟩⟩⟩)
  · exact op_repT pins s σ H _ _ v u Q I hx hy ⟨l, k, xs, rfl, rfl, hT, hne, by omega, h2, hz, q2 hk⟩
end Wr

/-! The text by places, what lies in the heap, the facts of the top. -/
namespace Wh
open PySem PySem.Spec PyProof.Rows L2 Wr
open Uw05 (Best)
abbrev Play := Uw05.Play
abbrev Week := Uw05.Week

def topAt (i : Nat) : Stmt := PySem.Challenge.pw_weekplays_s01_answers.main.body.getD i (.Pass ⟨0, 0, 0, 0⟩)
abbrev sPlayInit : Stmt := inClass (topAt 3) 0
abbrev sTold : Stmt := inClass (topAt 3) 1
abbrev sTakes : Stmt := inClass (topAt 3) 2
abbrev sReaderInit : Stmt := inClass (topAt 5) 0
abbrev sHasMore : Stmt := inClass (topAt 5) 1
abbrev sNumber : Stmt := inClass (topAt 5) 2
abbrev sRow : Stmt := inClass (topAt 5) 3
abbrev sFirstWrong : Stmt := topAt 10
abbrev sWrongNight : Stmt := topAt 11
abbrev sWrongPlay : Stmt := topAt 12
abbrev sTakings : Stmt := topAt 13
abbrev sChange : Stmt := topAt 14
abbrev sWork : Stmt := topAt 15
abbrev sReckon : Stmt := topAt 16
abbrev sWithLen : Stmt := topAt 17
abbrev sOutInit : Stmt := inClass (topAt 19) 0
abbrev sSearchInit : Stmt := inClass (topAt 20) 0
abbrev sWhole : Stmt := inClass (topAt 20) 1
abbrev sOnward : Stmt := inClass (topAt 20) 2
abbrev sLooked : Stmt := inClass (topAt 20) 3
abbrev sAtEnd : Stmt := inClass (topAt 20) 4
abbrev sChoosing : Stmt := inClass (topAt 20) 5
abbrev sNoWay : Stmt := topAt 21
abbrev sJoined : Stmt := topAt 22
abbrev sOneMore : Stmt := topAt 23
abbrev sWeekInit : Stmt := inClass (topAt 28) 0
abbrev sBegins : Stmt := inClass (topAt 28) 1
abbrev sPlay : Stmt := inClass (topAt 28) 2
abbrev sBest : Stmt := inClass (topAt 28) 3
abbrev sCheck : Stmt := inClass (topAt 28) 4
abbrev sIsBill : Stmt := inClass (topAt 28) 5
abbrev sNight : Stmt := inClass (topAt 28) 6
abbrev sDrop : Stmt := inClass (topAt 28) 7
abbrev sAreNights : Stmt := topAt 29
abbrev sDark : Stmt := topAt 30
abbrev sAnswers : Stmt := topAt 39
abbrev sNext : Stmt := topAt 40
abbrev sReadPlay : Stmt := topAt 41

/-! ### fields -/
theorem lk_here {k : Str} {v : V} {r : List (Str × V)} : List.lookup k ((k, v) :: r) = some v := by
  have e : (k == k) = true := beq_self_eq_true k
  simp only [List.lookup, e]
theorem lk_past {k g : Str} {v : V} {r : List (Str × V)} (h : (k == g) = false) : List.lookup k ((g, v) :: r) = List.lookup k r := by
  simp only [List.lookup, h]
theorem lk_none {k : Str} : List.lookup k ([] : List (Str × V)) = none := rfl
theorem put_here {f : Str} {v x : V} {r : List (Str × V)} : putF f v ((f, x) :: r) = (f, v) :: r := if_pos rfl
theorem put_past {f g : Str} {v x : V} {r : List (Str × V)} (h : ¬ g = f) : putF f v ((g, x) :: r) = (g, x) :: putF f v r := if_neg h
theorem put_new {f : Str} {v : V} : putF f v [] = [(f, v)] := rfl

def pF (v1 v2 v3 v4 v5 v6 : V) : List (Str × V) := [("set_up", v1), ("strike", v2), ("may_run", v3), ("least", v4), ("most", v5), ("brings", v6)]
section
variable {v1 v2 v3 v4 v5 v6 : V}
theorem pF_1 : (pF v1 v2 v3 v4 v5 v6).lookup ("set_up" : Str) = some v1 := lk_here
theorem pF_2 : (pF v1 v2 v3 v4 v5 v6).lookup ("strike" : Str) = some v2 := (lk_past (by decide +kernel)).trans lk_here
theorem pF_3 : (pF v1 v2 v3 v4 v5 v6).lookup ("may_run" : Str) = some v3 := (lk_past (by decide +kernel)).trans ((lk_past (by decide +kernel)).trans lk_here)
theorem pF_4 : (pF v1 v2 v3 v4 v5 v6).lookup ("least" : Str) = some v4 := (lk_past (by decide +kernel)).trans ((lk_past (by decide +kernel)).trans ((lk_past (by decide +kernel)).trans lk_here))
theorem pF_5 : (pF v1 v2 v3 v4 v5 v6).lookup ("most" : Str) = some v5 := (lk_past (by decide +kernel)).trans ((lk_past (by decide +kernel)).trans ((lk_past (by decide +kernel)).trans ((lk_past (by decide +kernel)).trans lk_here)))
theorem pF_6 : (pF v1 v2 v3 v4 v5 v6).lookup ("brings" : Str) = some v6 := (lk_past (by decide +kernel)).trans ((lk_past (by decide +kernel)).trans ((lk_past (by decide +kernel)).trans ((lk_past (by decide +kernel)).trans ((lk_past (by decide +kernel)).trans lk_here))))
theorem pF_no {k : Str} (h : ([("set_up" : Str), "strike", "may_run", "least", "most", "brings"].all fun g => !(k == g)) = true) : (pF v1 v2 v3 v4 v5 v6).lookup k = none := by
  simp only [List.all_cons, Bool.and_eq_true, Bool.not_eq_true', List.all_nil] at h
  obtain ⟨a, b, c, d, e, f, _⟩ := h
  exact (lk_past a).trans ((lk_past b).trans ((lk_past c).trans ((lk_past d).trans ((lk_past e).trans ((lk_past f).trans rfl)))))
theorem pF_new : putF "brings" v6 (putF "most" v5 (putF "least" v4 (putF "may_run" v3 (putF "strike" v2 (putF "set_up" v1 []))))) = pF v1 v2 v3 v4 v5 v6 := by
  repeat first
    | rw [put_new]
    | rw [put_past (by decide +kernel)]
  rfl
end
def f2 (a : Str) (x : V) (b : Str) (y : V) : List (Str × V) := [(a, x), (b, y)]
def f3 (a : Str) (x : V) (b : Str) (y : V) (c : Str) (z : V) : List (Str × V) := [(a, x), (b, y), (c, z)]

/-! ### what lies in the heap -/
def yes (b : Bool) : Int := if b = true then 1 else 0
/-- at a the play p, what it brings at r -/
def PlayAt (C : Addr) (H : Hp) (a : Addr) (p : Play) (r : Addr) : Prop :=
  ∃ dx, H a = some (.ins C dx (pF (.int p.set) (.int p.strike) (.int (yes p.runs)) (.int p.least) (.int p.most) (.ref r))) ∧ H r = some (.lst (iv p.brings))
/-- at l the list of the plays ps, their lists not at x -/
def PlaysAt (C : Addr) (H : Hp) (l : Addr) (ps : List Play) (x : Addr) : Prop :=
  ∃ as : List Addr, H l = some (.lst (as.map V.ref)) ∧ as.length = ps.length ∧ ∀ (i : Nat) (a : Addr) (p : Play), as[i]? = some a → ps[i]? = some p → ∃ r, PlayAt C H a p r ∧ r ≠ x
def OutAt (C : Addr) (H : Hp) (a : Addr) (o : Best) : Prop :=
  ∃ dx r, H a = some (.ins C dx (f3 "left" (.int o.left) "ways" (.int o.many) "bill" (.ref r))) ∧ H r = some (.lst (iv o.bill))
def ReaderAt (C : Addr) (H : Hp) (a l : Addr) (pos : Nat) : Prop := ∃ dx, H a = some (.ins C dx (f2 "line" (.ref l) "place" (.int pos)))
/-- at l the list of the plays ps, their lists neither at x nor at y -/
def Plays2 (C : Addr) (H : Hp) (l : Addr) (ps : List Play) (x y : Addr) : Prop :=
  ∃ as : List Addr, H l = some (.lst (as.map V.ref)) ∧ as.length = ps.length ∧ ∀ (i : Nat) (a : Addr) (p : Play), as[i]? = some a → ps[i]? = some p → ∃ r, PlayAt C H a p r ∧ r ≠ x ∧ r ≠ y
/-- at a the week w: its nights at lc, its plays at lp; no play's list at lc or at y -/
def WeekAt (C Cp : Addr) (H : Hp) (a : Addr) (w : Week) (lc lp y : Addr) : Prop :=
  ∃ dx, H a = some (.ins C dx (f2 "come" (.ref lc) "plays" (.ref lp))) ∧ H lc = some (.lst (iv w.nights)) ∧ Plays2 Cp H lp (Wp.full w) lc y
section
variable {H H' : Hp} {C a l r x : Addr}
theorem PlayAt.keeps {p : Play} (h : PlayAt C H a p r) (k : ∀ b o, H b = some o → (b = a ∨ b = r) → H' b = some o) : PlayAt C H' a p r :=
  let ⟨dx, h1, h2⟩ := h
  ⟨dx, k _ _ h1 (.inl rfl), k _ _ h2 (.inr rfl)⟩
theorem PlaysAt.same {ps : List Play} (h : PlaysAt C H l ps x) (k : Same H H') : PlaysAt C H' l ps x :=
  let ⟨as, h1, h2, h3⟩ := h
  ⟨as, k _ _ h1, h2, fun i b p e1 e2 => let ⟨r, q, n⟩ := h3 i b p e1 e2; ⟨r, q.keeps fun b o e _ => k b o e, n⟩⟩
theorem Plays2.one {ps : List Play} {y : Addr} (h : Plays2 C H l ps x y) : PlaysAt C H l ps x :=
  let ⟨as, h1, h2, h3⟩ := h
  ⟨as, h1, h2, fun i b p e1 e2 => let ⟨r, q, n, _⟩ := h3 i b p e1 e2; ⟨r, q, n⟩⟩
theorem Plays2.same {ps : List Play} {y : Addr} (h : Plays2 C H l ps x y) (k : Same H H') : Plays2 C H' l ps x y :=
  let ⟨as, h1, h2, h3⟩ := h
  ⟨as, k _ _ h1, h2, fun i b p e1 e2 => let ⟨r, q, n⟩ := h3 i b p e1 e2; ⟨r, q.keeps fun b o e _ => k b o e, n⟩⟩
theorem OutAt.same {o : Best} (h : OutAt C H a o) (k : Same H H') : OutAt C H' a o :=
  let ⟨dx, r, h1, h2⟩ := h
  ⟨dx, r, k _ _ h1, k _ _ h2⟩
end
theorem iv_length (g : List Nat) : (iv g).length = g.length := List.length_map ..
theorem iv_get {g : List Nat} {i k : Nat} (h : g[i]? = some k) : (iv g)[i]? = some (V.int k) := by
  unfold iv
  rw [List.getElem?_map, h]; rfl
theorem iv_ints (g : List Nat) : iv g = (g.map fun k : Nat => (k : Int)).map V.int := by
  unfold iv
  rw [List.map_map]; rfl
theorem get_some {g : List Nat} {i : Nat} (h : i < g.length) : g[i]? = some (g.getD i 0) := by
  rw [List.getD_eq_getElem?_getD, List.getElem?_eq_getElem h]; rfl
theorem pl_some {ps : List Play} {i : Nat} (h : i < ps.length) : ps[i]? = some (Wp.pl ps i) := by
  unfold Wp.pl
  rw [List.getD_eq_getElem?_getD, List.getElem?_eq_getElem h]; rfl
theorem PlaysAt.at_ {H : Hp} {C l x : Addr} {ps : List Play} (h : PlaysAt C H l ps x) : ∃ as : List Addr, H l = some (.lst (as.map V.ref)) ∧ as.length = ps.length ∧
    ∀ i, i < ps.length → ∃ a r, (as.map V.ref)[i]? = some (V.ref a) ∧ PlayAt C H a (Wp.pl ps i) r ∧ r ≠ x := by
  obtain ⟨as, h1, h2, h3⟩ := h
  refine ⟨as, h1, h2, fun i hi => ?_⟩
  have hi' : i < as.length := by omega
  obtain ⟨r, q, n⟩ := h3 i as[i] (Wp.pl ps i) (List.getElem?_eq_getElem hi') (pl_some hi)
  exact ⟨as[i], r, by rw [List.getElem?_map, List.getElem?_eq_getElem hi']; rfl, q, n⟩
theorem upd_same_keeps {H : Hp} {p : Addr} {o : HO} (n : H p = none) : Same H (upd H p o) := fun b u e => by
  rw [upd_ne (ne_of_none e n)]; exact e
theorem Same.step {H H' : Hp} {p : Addr} {o : HO} (k : Same H H') (n : H' p = none) : Same H (upd H' p o) := k.trans (upd_same_keeps n)
theorem sz (n : Nat) (h : n ≤ 16000000 := by omega) : n ≤ sizeLine := Nat.le_trans h (by decide)

/-! ### the facts of the top -/
structure Txt (K : PySem.W.Frag) (mg : Str → Option Value) (Cp Cr Co Cs Cw : Addr) : Prop where
  cp : Cls K Cp
  cr : Cls K Cr
  co : Cls K Co
  cs : Cls K Cs
  cw : Cls K Cw
  np1 : NoAttr K Cp "set_up"
  np2 : NoAttr K Cp "strike"
  np3 : NoAttr K Cp "may_run"
  np4 : NoAttr K Cp "least"
  np5 : NoAttr K Cp "most"
  np6 : NoAttr K Cp "brings"
  nr1 : NoAttr K Cr "line"
  nr2 : NoAttr K Cr "place"
  no1 : NoAttr K Co "left"
  no2 : NoAttr K Co "ways"
  no3 : NoAttr K Co "bill"
  ns1 : NoAttr K Cs "come"
  ns2 : NoAttr K Cs "plays"
  ns3 : NoAttr K Cs "known"
  nw1 : NoAttr K Cw "come"
  nw2 : NoAttr K Cw "plays"
  gp : mg "Play" = some (.ref Cp)
  gr : mg "Reader" = some (.ref Cr)
  go : mg "Outlook" = some (.ref Co)
  gs : mg "Search" = some (.ref Cs)
  gw : mg "Week" = some (.ref Cw)
  zlen : mg "len" = none
  zmax : mg "max" = none
  zmin : mg "min" = none
  zrange : mg "range" = none
  zenum : mg "enumerate" = none
  zsum : mg "sum" = none
  zlist : mg "list" = none
  kMoney : ∃ t, mg "MOST_MONEY" = some (.int 100000 t)
  kBrings : ∃ t, mg "MOST_BRINGS" = some (.int 6 t)
  kTwice : ∃ t, mg "NOT_TWICE_RUNNING" = some (.int 1 t)
  kSeldom : ∃ t, mg "TOO_SELDOM" = some (.int 2 t)
  kOften : ∃ t, mg "TOO_OFTEN" = some (.int 3 t)
  kNights : ∃ t, mg "MOST_NIGHTS" = some (.int 6 t)
  kCome : ∃ t, mg "MOST_COME" = some (.int 300 t)
  kPlays : ∃ t, mg "MOST_PLAYS" = some (.int 4 t)
  kBegins : ∃ t, mg "BEGINS" = some (.int 0 t)
  kPlay : ∃ t, mg "PLAY" = some (.int 1 t)
  kBest : ∃ t, mg "BEST" = some (.int 2 t)
  kCheck : ∃ t, mg "CHECK" = some (.int 3 t)
  kNight : ∃ t, mg "NIGHT" = some (.int 4 t)
  kDrop : ∃ t, mg "DROP" = some (.int 5 t)
/-- a def of the text that may be called by its name -/
structure Df (K : PySem.W.Frag) (mg : Str → Option Value) (x qual : Str) (st : Stmt) (f : Addr) (fd : FuncData) : Prop where
  F : Fun K x qual st f fd
  g : mg x = some (.ref f)
/-- a method that the class has -/
structure Mt (K : PySem.W.Frag) (C : Addr) (x qual : Str) (st : Stmt) (f : Addr) (fd : FuncData) : Prop where
  F : Fun K x qual st f fd
  m : Meth K C x f
end Wh

/-! The defs of play.py and reader.py. -/
namespace Wd
open PySem PySem.Spec PyProof.Rows L2 Wr Wh
open Uw05 (Best)
theorem pe_k {X : Cx} {x : Str} {i : Int} {pos : Pos} (h : ∃ t, X.mg x = some (.int i t)) (hg : Gl X x := by rfl) (hd : (x == ("__debug__" : Str)) = false := by decide) : PE X (.Name x pos) (tC (.int i)) :=
  let ⟨t, e⟩ := h
  pe_glob hg e ⟨t, rfl⟩ hd
theorem dcase {p A B : Prop} [Decidable p] (h1 : p → A) (h2 : ¬ p → B) : if decide p = true then A else B := by
  by_cases h : p
  · rw [if_pos (decide_eq_true h)]; exact h1 h
  · rw [if_neg (by rw [decide_eq_false h]; exact Bool.false_ne_true)]; exact h2 h
theorem bad_play {wk : Week} {p : Play} (h : ¬ Wp.PlayOk p wk.nights.length) : Uw05.playOk wk p = false := by
  cases e : Uw05.playOk wk p
  · rfl
  · exact absurd (Wp.playOk_iff.mp e) h
theorem good_play {wk : Week} {p : Play} (h : Wp.PlayOk p wk.nights.length) : Uw05.playOk wk p = true := Wp.playOk_iff.mpr h
section
variable {P : Program} {w : World} {K : PySem.W.Frag} {mg : Str → Option Value} {base : Heap} {Cp Cr Co Cs Cw : Addr} {f : Addr} {fd : FuncData}

/-! ### Play -/
def spPlayInit (C : Addr) : Sp := fun vs H Q _ => ∃ (p dx : Addr) (v1 v2 v3 v4 v5 v6 : V), vs = [.ref p, v1, v2, v3, v4, v5, v6] ∧ H p = some (.ins C dx []) ∧
  Q .non (upd H p (.ins C dx (pF v1 v2 v3 v4 v5 v6)))
theorem scPlayInit : FnScope ["self", "set_up", "strike", "may_run", "least", "most", "brings"] ["self", "set_up", "strike", "may_run", "least", "most", "brings"] (defScope sPlayInit) := ⟨rfl, rfl, rfl, by decide +kernel, rfl, by decide +kernel, by decide +kernel⟩
theorem ok_playInit (F : Fun K "__init__" "Play.__init__" sPlayInit f fd) (T : Txt K mg Cp Cr Co Cs Cw) : FnOk P w K mg base CX0 1 f fd ["self", "set_up", "strike", "may_run", "least", "most", "brings"] (spPlayInit Cp) := by
  refine F.ok scPlayInit (fun vs H Q E h => ?_) (fun cdv A outer s H vs Q E hr h => ⟨_, pss_cons (ps_fld (pv 0) (pv 1) rfl) (pss_cons (ps_fld (pv 0) (pv 2) rfl) (pss_cons (ps_fld (pv 0) (pv 3) rfl) (pss_cons (ps_fld (pv 0) (pv 4) rfl)
    (pss_cons (ps_fld (pv 0) (pv 5) rfl) (pss_one (ps_fld (pv 0) (pv 6) rfl)))))), ?_⟩)
  · obtain ⟨p, dx, v1, v2, v3, v4, v5, v6, rfl, _⟩ := h
    rfl
  · obtain ⟨p, dx, v1, v2, v3, v4, v5, v6, rfl, hp, q⟩ := h
    refine ⟨_, rfl, _, rfl, p, Cp, dx, _, rfl, hp, T.cp, T.np1, (by show 0 < 1000; decide), ?_⟩
    refine ⟨_, rfl, _, rfl, p, Cp, dx, _, rfl, upd_same, T.cp, T.np2, (by show 1 < 1000; decide), ?_⟩
    refine ⟨_, rfl, _, rfl, p, Cp, dx, _, rfl, upd_same, T.cp, T.np3, (by show 2 < 1000; decide), ?_⟩
    refine ⟨_, rfl, _, rfl, p, Cp, dx, _, rfl, upd_same, T.cp, T.np4, (by show 3 < 1000; decide), ?_⟩
    refine ⟨_, rfl, _, rfl, p, Cp, dx, _, rfl, upd_same, T.cp, T.np5, (by show 4 < 1000; decide), ?_⟩
    refine ⟨_, rfl, _, rfl, p, Cp, dx, _, rfl, upd_same, T.cp, T.np6, (by show 5 < 1000; decide), ?_⟩
    rw [upd_upd, upd_upd, upd_upd, upd_upd, upd_upd, pF_new]
    exact q

/-- told: whether each number is within its bounds -/
def spTold (C : Addr) : Sp := fun vs H Q _ => ∃ (a : Addr) (wk : Week) (p : Play) (r : Addr), vs = [.ref a, .int (wk.nights.length : Nat)] ∧ PlayAt C H a p r ∧ p.brings.length ≤ 100000 ∧ Q (.bl (Uw05.playOk wk p)) H
theorem scTold : FnScope ["self", "nights"] ["self", "nights"] (defScope sTold) := ⟨rfl, rfl, rfl, by decide +kernel, rfl, by decide +kernel, by decide +kernel⟩
theorem yes_le (b : Bool) : ¬ (1 : Int) < yes b := by cases b <;> decide
theorem all_max {g : List Nat} {m : Int} (hm : m ∈ g.map fun k : Nat => (k : Int)) (hx : ∀ y ∈ g.map fun k : Nat => (k : Int), y ≤ m) (n : Nat) : (g.all fun x => decide (x ≤ n)) = decide (m ≤ (n : Int)) := by
  obtain ⟨k, hk, rfl⟩ := List.mem_map.mp hm
  refine Bool.eq_iff_iff.mpr ?_
  rw [List.all_eq_true, decide_eq_true_eq]
  constructor
  · intro h
    have := of_decide_eq_true (h k hk)
    omega
  · intro h x hx'
    have := hx (x : Int) (List.mem_map.mpr ⟨x, hx', rfl⟩)
    exact decide_eq_true (by omega)
theorem ok_told (F : Fun K "is_as_told" "Play.is_as_told" sTold f fd) (T : Txt K mg Cp Cr Co Cs Cw) : FnOk P w K mg base CX0 1 f fd ["self", "nights"] (spTold Cp) := by
  refine F.ok scTold (fun vs H Q E h => ?_) (fun cdv A outer s H vs Q E hr h => ⟨_,
    pss_cons (ps_if (pw_or (pt_cmpR op_gt (pe_fld (pv 0) rfl) (pe_k T.kMoney) (nomark _)) (pw_or (pt_cmpR op_gt (pe_fld (pv 0) rfl) (pe_k T.kMoney) (nomark _)) (pw_or1 (pt_cmpR op_gt (pe_fld (pv 0) rfl) pe_int (nomark _))))).pt (pss_one (ps_ret pe_bl)) pss_nil)
    (pss_cons (ps_if (pw_or (pt_cmpR op_gt (pe_fld (pv 0) rfl) (pe_fld (pv 0) rfl) (nomark _)) (pw_or1 (pt_cmpR op_gt (pe_fld (pv 0) rfl) (pv 1) (nomark _)))).pt (pss_one (ps_ret pe_bl)) pss_nil)
    (pss_one (ps_ret (pe_and (pe_chain op_le op_le pe_int (pe_callB call_len_seq (by rfl) T.zlen PySem.boot_len (pa_cons (pe_fld (pv 0) rfl) pa_nil)) (pe_k T.kBrings))
      (pe_one (pe_cmpR op_le (pe_callB (cr_max rfl) (by rfl) T.zmax (by decide +kernel) (pa_cons (pe_fld (pv 0) rfl) pa_nil)) (pe_k T.kMoney) (nomark _))))))), ?_⟩)
  · obtain ⟨a, wk, p, r, rfl, _⟩ := h
    rfl
  · obtain ⟨a, wk, p, r, rfl, ⟨dx, h1, h2⟩, hz, q⟩ := h
    have no : ¬ Wp.PlayOk p wk.nights.length → Q (.bl false) H := fun n => by
      rw [bad_play n] at q
      exact q
    refine ⟨_, rfl, a, Cp, dx, _, _, rfl, h1, T.cp, T.np1, pF_1, _, _, rfl, rfl, _, rfl, dcase (fun c => iteT (no fun z => ?_)) fun c1 => ?_⟩
    · have := z.set; omega
    refine ⟨_, rfl, a, Cp, dx, _, _, rfl, h1, T.cp, T.np2, pF_2, _, _, rfl, rfl, _, rfl, dcase (fun c => iteT (no fun z => ?_)) fun c2 => ?_⟩
    · have := z.strike; omega
    refine ⟨_, rfl, a, Cp, dx, _, _, rfl, h1, T.cp, T.np3, pF_3, _, _, rfl, rfl, _, rfl, dcase (fun c => absurd c (yes_le _)) fun _ => ?_⟩
    refine ⟨_, rfl, a, Cp, dx, _, _, rfl, h1, T.cp, T.np4, pF_4, _, rfl, a, Cp, dx, _, _, rfl, h1, T.cp, T.np5, pF_5, _, _, rfl, rfl, _, rfl, dcase (fun c => iteT (no fun z => ?_)) fun c3 => ?_⟩
    · have := z.least; omega
    refine ⟨_, rfl, a, Cp, dx, _, _, rfl, h1, T.cp, T.np5, pF_5, _, rfl, _, _, rfl, rfl, _, rfl, dcase (fun c => no fun z => ?_) fun c4 => ?_⟩
    · have := z.most; omega
    refine ⟨_, rfl, a, Cp, dx, _, _, rfl, h1, T.cp, T.np6, pF_6, r, _, rfl, .inl (SqL.of h2), _, _, rfl, rfl, _, rfl, dcase (fun c5 => ?_) fun c5 => ?_⟩
    · refine ⟨_, _, rfl, rfl, _, rfl, dcase (fun c6 => ?_) fun c6 => ?_⟩
      · rw [iv_length] at c5 c6
        refine ⟨_, rfl, a, Cp, dx, _, _, rfl, h1, T.cp, T.np6, pF_6, r, _, rfl, SqL.of (by rw [← iv_ints]; exact h2), by rw [List.length_map]; omega, fun m hm hx => ⟨_, _, rfl, rfl, ?_⟩⟩
        have e : (p.brings.all fun x => decide (x ≤ 100000)) = decide (m ≤ (100000 : Int)) := all_max hm hx 100000
        show Q (.bl (decide (m ≤ (100000 : Int)))) H
        cases ed : decide (m ≤ (100000 : Int)) with
        | true =>
          rw [good_play] at q
          · exact q
          · rw [ed] at e
            refine ⟨by omega, by omega, fun x hx => of_decide_eq_true (List.all_eq_true.mp e x hx), by omega, by omega, by omega, by omega⟩
        | false =>
          refine no fun z => ?_
          rw [ed] at e
          have : (p.brings.all fun x => decide (x ≤ 100000)) = true := List.all_eq_true.mpr fun x hx => decide_eq_true (z.b3 x hx)
          rw [this] at e
          cases e
      · refine no fun z => ?_
        rw [iv_length] at c6
        have := z.b2; omega
    · refine ⟨_, rfl, iteF (no fun z => ?_)⟩
      rw [iv_length] at c5
      have := z.b1; omega

/-- takes -/
def spTakes (C : Addr) : Sp := fun vs H Q _ => ∃ (a : Addr) (p : Play) (r : Addr) (t c : Nat), vs = [.ref a, .int t, .int c] ∧ PlayAt C H a p r ∧ 1 ≤ p.brings.length ∧ (∀ x ∈ p.brings, x ≤ 100000) ∧ Q (.int (Wp.takes p t c : Nat)) H
theorem scTakes : FnScope ["self", "times", "come", "place"] ["self", "times", "come"] (defScope sTakes) := ⟨rfl, rfl, rfl, by decide +kernel, rfl, by decide +kernel, by decide +kernel⟩
theorem min_int (t n : Nat) (h : 1 ≤ n) : (if ((n : Int) - 1) < (t : Int) then ((n : Int) - 1) else (t : Int)) = ((min t (n - 1) : Nat) : Int) := by
  by_cases c : ((n : Int) - 1) < (t : Int)
  · rw [if_pos c]; omega
  · rw [if_neg c]; omega
theorem ok_takes (F : Fun K "takes" "Play.takes" sTakes f fd) (T : Txt K mg Cp Cr Co Cs Cw) : FnOk P w K mg base CX0 1 f fd ["self", "times", "come"] (spTakes Cp) := by
  refine F.ok scTakes (fun vs H Q E h => ?_) (fun cdv A outer s H vs Q E hr h => ⟨_,
    pss_cons (ps_set (i := 3) scTakes.nd rfl (.inl rfl) (pe_callB (call_min2 rfl) (by rfl) T.zmin (by decide +kernel) (pa_cons (pv 1) (pa_cons (pe_op op_sub (pe_callB call_len_seq (by rfl) T.zlen PySem.boot_len (pa_cons (pe_fld (pv 0) rfl) pa_nil)) pe_int) pa_nil))))
    (pss_one (ps_ret (pe_op op_fdiv (pe_op op_mul (pe_ix ix_list (pe_fld (pv 0) rfl) (pv 3) (fun _ _ => rfl)) (pv 2)) pe_int))), ?_⟩)
  · obtain ⟨a, p, r, t, c, rfl, _⟩ := h
    rfl
  · obtain ⟨a, p, r, t, c, rfl, ⟨dx, h1, h2⟩, hn, hb, q⟩ := h
    refine ⟨_, rfl, _, rfl, a, Cp, dx, _, _, rfl, h1, T.cp, T.np6, pF_6, r, _, rfl, .inl (SqL.of h2), _, _, rfl, rfl, _, _, rfl, ?_⟩
    rw [iv_length, min_int t p.brings.length hn]
    have hlt : min t (p.brings.length - 1) < p.brings.length := by omega
    have hx : p.brings.getD (min t (p.brings.length - 1)) 0 ≤ 100000 := hb _ (List.mem_of_getElem? (get_some hlt))
    refine ⟨_, rfl, a, Cp, dx, _, _, rfl, h1, T.cp, T.np6, pF_6, _, rfl, r, _, _, _, rfl, rfl, SqL.of h2, atI_nat (iv_get (get_some hlt)), _, rfl, _, _, rfl, rfl, .inl ⟨by omega, by omega⟩, _, _, rfl, rfl, ⟨by decide, by decide⟩, ?_⟩
    exact q

/-! ### Reader -/
def spReaderInit (C : Addr) : Sp := fun vs H Q _ => ∃ (p dx : Addr) (v : V), vs = [.ref p, v] ∧ H p = some (.ins C dx []) ∧ Q .non (upd H p (.ins C dx (f2 "line" v "place" (.int 0))))
theorem scReaderInit : FnScope ["self", "line"] ["self", "line"] (defScope sReaderInit) := ⟨rfl, rfl, rfl, by decide +kernel, rfl, by decide +kernel, by decide +kernel⟩
theorem ok_readerInit (F : Fun K "__init__" "Reader.__init__" sReaderInit f fd) (T : Txt K mg Cp Cr Co Cs Cw) : FnOk P w K mg base CX0 1 f fd ["self", "line"] (spReaderInit Cr) := by
  refine F.ok scReaderInit (fun vs H Q E h => ?_) (fun cdv A outer s H vs Q E hr h => ⟨_, pss_cons (ps_fld (pv 0) (pv 1) rfl) (pss_one (ps_fld (pv 0) pe_int rfl)), ?_⟩)
  · obtain ⟨p, dx, v, rfl, _⟩ := h
    rfl
  · obtain ⟨p, dx, v, rfl, hp, q⟩ := h
    refine ⟨_, rfl, _, rfl, p, Cr, dx, _, rfl, hp, T.cr, T.nr1, (by show 0 < 1000; decide), ?_⟩
    refine ⟨_, rfl, p, Cr, dx, _, rfl, upd_same, T.cr, T.nr2, (by show 1 < 1000; decide), ?_⟩
    rw [upd_upd, put_new, put_past (by decide +kernel), put_new]
    exact q
theorem rd1 {v z : V} : (f2 "line" v "place" z).lookup ("line" : Str) = some v := lk_here
theorem rd2 {v z : V} : (f2 "line" v "place" z).lookup ("place" : Str) = some z := (lk_past (by decide +kernel)).trans lk_here
theorem rd_put {v z y : V} : putF "place" y (f2 "line" v "place" z) = f2 "line" v "place" y := (put_past (by decide +kernel)).trans (congrArg _ put_here)
theorem rd_no {v z : V} {k : Str} (h : ((k == "line") || (k == "place")) = false) : (f2 "line" v "place" z).lookup k = none := by
  rw [Bool.or_eq_false_iff] at h
  exact (lk_past h.1).trans ((lk_past h.2).trans rfl)
def spHasMore (C : Addr) (K : PySem.W.Frag) : Sp := fun vs H Q _ => ∃ (a l : Addr) (pos : Nat) (ns : List Int), vs = [.ref a] ∧ ReaderAt C H a l pos ∧ SqL K H l (ns.map V.int) ∧ Q (.bl (decide ((pos : Int) < (ns.length : Nat)))) H
theorem scHasMore : FnScope ["self"] ["self"] (defScope sHasMore) := ⟨rfl, rfl, rfl, by decide +kernel, rfl, by decide +kernel, by decide +kernel⟩
theorem ok_hasMore (F : Fun K "has_more" "Reader.has_more" sHasMore f fd) (T : Txt K mg Cp Cr Co Cs Cw) : FnOk P w K mg base CX0 1 f fd ["self"] (spHasMore Cr K) := by
  refine F.ok scHasMore (fun vs H Q E h => ?_) (fun cdv A outer s H vs Q E hr h => ⟨_, pss_one (ps_ret (pe_cmpR op_lt (pe_fld (pv 0) rfl) (pe_callB call_len_seq (by rfl) T.zlen PySem.boot_len (pa_cons (pe_fld (pv 0) rfl) pa_nil)) (nomark _))), ?_⟩)
  · obtain ⟨a, l, pos, ns, rfl, _⟩ := h
    rfl
  · obtain ⟨a, l, pos, ns, rfl, ⟨dx, h1⟩, h2, q⟩ := h
    refine ⟨_, rfl, a, Cr, dx, _, _, rfl, h1, T.cr, T.nr2, rd2, _, rfl, a, Cr, dx, _, _, rfl, h1, T.cr, T.nr1, rd1, l, _, rfl, .inl h2, _, _, rfl, rfl, ?_⟩
    rw [List.length_map]
    exact q
def spNumber (C : Addr) (K : PySem.W.Frag) : Sp := fun vs H Q _ => ∃ (a l dx : Addr) (pos : Nat) (ns : List Int) (z : Int), vs = [.ref a] ∧ H a = some (.ins C dx (f2 "line" (.ref l) "place" (.int pos))) ∧ SqL K H l (ns.map V.int) ∧ ns[pos]? = some z ∧
  Q (.int z) (upd H a (.ins C dx (f2 "line" (.ref l) "place" (.int (pos + 1 : Nat)))))
theorem scNumber : FnScope ["self", "found"] ["self"] (defScope sNumber) := ⟨rfl, rfl, rfl, by decide +kernel, rfl, by decide +kernel, by decide +kernel⟩
theorem map_get {ns : List Int} {i : Nat} {z : Int} (h : ns[i]? = some z) : (ns.map V.int)[i]? = some (V.int z) := by
  rw [List.getElem?_map, h]; rfl
theorem ok_number (F : Fun K "number" "Reader.number" sNumber f fd) (T : Txt K mg Cp Cr Co Cs Cw) : FnOk P w K mg base CX0 1 f fd ["self"] (spNumber Cr K) := by
  refine F.ok scNumber (fun vs H Q E h => ?_) (fun cdv A outer s H vs Q E hr h => ⟨_,
    pss_cons (ps_set (i := 1) scNumber.nd rfl (.inl rfl) (pe_ix ix_list (pe_fld (pv 0) rfl) (pe_fld (pv 0) rfl) (fun _ _ => rfl)))
    (pss_cons (ps_fldaug (pv 0) pe_int in_add) (pss_one (ps_ret (pv 1)))), ?_⟩)
  · obtain ⟨a, l, dx, pos, ns, z, rfl, _⟩ := h
    rfl
  · obtain ⟨a, l, dx, pos, ns, z, rfl, h1, h2, hz, q⟩ := h
    refine ⟨_, rfl, a, Cr, dx, _, _, rfl, h1, T.cr, T.nr1, rd1, _, rfl, a, Cr, dx, _, _, rfl, h1, T.cr, T.nr2, rd2, l, _, _, _, rfl, rfl, h2, atI_nat (map_get hz), ?_⟩
    refine ⟨_, rfl, a, Cr, dx, _, _, rfl, h1, T.cr, T.nr2, rd2, _, _, rfl, rfl, _, _, h1, (by show 2 < 1000; decide), ?_⟩
    refine ⟨_, rfl, ?_⟩
    rw [rd_put]
    exact q
def spRow (C : Addr) (K : PySem.W.Frag) : Sp := fun vs H Q _ => ∃ (a l dx : Addr) (pos n : Nat) (ns : List Int), vs = [.ref a] ∧ H a = some (.ins C dx (f2 "line" (.ref l) "place" (.int pos))) ∧ SqL K H l (ns.map V.int) ∧ ns[pos]? = some (n : Int) ∧ pos + 1 + n ≤ ns.length ∧
  ∀ p, H p = none → Q (.ref p) (upd (upd H a (.ins C dx (f2 "line" (.ref l) "place" (.int (pos + 1 + n : Nat))))) p (.lst (((ns.drop (pos + 1)).take n).map V.int)))
theorem scRow : FnScope ["self", "size", "start"] ["self"] (defScope sRow) := ⟨rfl, rfl, rfl, by decide +kernel, rfl, by decide +kernel, by decide +kernel⟩
theorem sq_upd {K : PySem.W.Frag} {H : Hp} {a C dx : Addr} {fs fs' : List (Str × V)} {l : Addr} {xs : List V} (h : H a = some (.ins C dx fs)) (q : SqL K H l xs) : SqL K (upd H a (.ins C dx fs')) l xs := by
  rcases q with (q | ⟨o, q⟩) | q
  · exact .inl (.inl (by rw [upd_ne (ne_of q h (fun z => nomatch z))]; exact q))
  · exact .inl (.inr ⟨o, by rw [upd_ne (ne_of q h (fun z => nomatch z))]; exact q⟩)
  · exact .inr q
theorem ok_row {f2' : Addr} {fd2 : FuncData} (F : Fun K "row" "Reader.row" sRow f fd) (T : Txt K mg Cp Cr Co Cs Cw) (N : Mt K Cr "number" "Reader.number" sNumber f2' fd2) (b2 : Binds K fd2 ["self"] []) : FnOk P w K mg base CX0 2 f fd ["self"] (spRow Cr K) := by
  have G : FnOk P w K mg base CX0 1 f2' fd2 ["self"] (spNumber Cr K) := ok_number N.F T
  refine F.ok scRow (fun vs H Q E h => ?_) (fun cdv A outer s H vs Q E hr h => ⟨_,
    pss_cons (ps_set (i := 1) scRow.nd rfl (.inl rfl) (pe_meth0 (pv 0) T.cr N.m G hr b2 .nil pass0))
    (pss_cons (ps_set (i := 2) scRow.nd rfl (.inl rfl) (pe_fld (pv 0) rfl))
    (pss_cons (ps_fldaug (pv 0) (pv 1) in_add) (pss_one (ps_ret (pe_slice sl_list (pe_fld (pv 0) rfl) (po_some (pv 2)) (po_some (pe_fld (pv 0) rfl))))))), ?_⟩)
  · obtain ⟨a, l, dx, pos, n, ns, rfl, _⟩ := h
    rfl
  · obtain ⟨a, l, dx, pos, n, ns, rfl, h1, h2, hz, hl, q⟩ := h
    refine ⟨_, rfl, a, dx, _, rfl, h1, rd_no (by decide +kernel), a, l, dx, pos, ns, _, rfl, h1, h2, hz, ?_⟩
    refine ⟨_, rfl, a, Cr, dx, _, _, rfl, upd_same, T.cr, T.nr2, rd2, ?_⟩
    refine ⟨_, rfl, a, Cr, dx, _, _, rfl, upd_same, T.cr, T.nr2, rd2, _, rfl, _, _, rfl, rfl, _, _, upd_same, (by show 2 < 1000; decide), ?_⟩
    rw [rd_put, upd_upd, show ((pos + 1 : Nat) : Int) + ((n : Nat) : Int) = ((pos + 1 + n : Nat) : Int) from by omega]
    refine ⟨_, rfl, a, Cr, dx, _, _, rfl, upd_same, T.cr, T.nr1, rd1, _, rfl, _, rfl, _, rfl, a, Cr, dx, _, _, rfl, upd_same, T.cr, T.nr2, rd2, _, rfl, l, _, rfl, sq_upd h1 h2, fun p hp => ?_⟩
    have hpa : H p = none := by
      by_cases e : p = a
      · subst e; rw [upd_same] at hp; cases hp
      · rw [upd_ne e] at hp; exact hp
    have hcut : cutV (ns.map V.int) (some ((pos + 1 : Nat) : Int)) (some ((pos + 1 + n : Nat) : Int)) = ((ns.drop (pos + 1)).take n).map V.int := by
      unfold cutV
      rw [List.length_map, HT.sIx_nat, HT.sIx_nat, Nat.min_eq_left (by omega), Nat.min_eq_left (by omega), Nat.add_sub_cancel_left, List.map_take, List.map_drop]
    rw [hcut]
    exact q p hpa
end
end Wd

/-! The defs of bills.py. -/
namespace Wd
open PySem PySem.Spec PyProof.Rows L2 Wr Wh
open Uw05 (Best)

/-! ### words: xs[i] within xs[i] += e; a loop over enumerate -/
def rGetL (K : PySem.W.Frag) : V → V → Hp → VK → Prop := fun x y H Q => ∃ p xs j v, x = .ref p ∧ y = .int ((j : Nat) : Int) ∧ SqL K H p xs ∧ xs[j]? = some v ∧ Q v H
theorem get_list {X : Cx} : PGet X (rGetL X.K) := by
  intro pins s σ H o i ov iv Q I ro ri h
  obtain ⟨p, xs, j, v, rfl, rfl, hq, he, q⟩ := h
  cases ro
  obtain ⟨t, rfl⟩ := ri
  obtain ⟨its, r, pl, hsize⟩ := I.list hq
  obtain ⟨u, eu, ru⟩ := r.get he
  have hj : j < its.length := (List.getElem?_eq_some_iff.mp eu).1
  have hl := r.length
  have hn := line63
  exact wpAny_getItem_list pl.isList (by omega) (by omega) (by simpa using eu) ⟨v, H, I, ru, q⟩
theorem for_enum {K : PySem.W.Frag} {a : Addr} {xs : List V} {g : TG} {tb : TS} {D : Ends} {σ : L2.St} {H : Hp} (Pv : Nat → L2.St → Hp → Prop) (h0 : Pv 0 σ H) (hq : ∀ i σ H, Pv i σ H → SqL K H a xs)
    (hs : ∀ (i : Nat) (x : V) (T : Addr) (σ : L2.St) (H : Hp), xs[i]? = some x → Pv i σ H → H T = none → g (.ref T) σ (upd H T (.tup [.int (i : Nat), x])) fun σ2 H2 => tb { D with nx := Pv (i + 1), ct := Pv (i + 1), bk := D.nx } σ2 H2)
    (hd : ∀ σ H, Pv xs.length σ H → D.nx σ H) :
    ∃ Wi : Nat → Nat → L2.St → Hp → Prop, (∃ m, Wi 0 m σ H) ∧ ∀ i m σ H, Wi i m σ H → ((Ite K a).stop i H ∧ D.nx σ H) ∨ ((Ite K a).go i H ∧ ∃ N : L2.St → Hp → Prop, (∀ σ' H', N σ' H' → ∃ m', m' < m ∧ Wi (i + 1) m' σ' H') ∧ ∀ v H', (Ite K a).yld i H v H' → g v σ H' fun σ2 H2 => tb { D with nx := N, ct := N, bk := D.nx } σ2 H2) := by
  refine ⟨fun i m σ H => m + i = xs.length ∧ Pv i σ H, ⟨xs.length, rfl, h0⟩, fun i m σ H hh => ?_⟩
  obtain ⟨hm, p⟩ := hh
  have q := hq i σ H p
  rcases Nat.eq_zero_or_pos m with hz | hz
  · obtain rfl : i = xs.length := by omega
    exact Or.inl ⟨⟨xs, q, Nat.le_refl _⟩, hd σ H p⟩
  · have hlt : i < xs.length := by omega
    refine .inr ⟨⟨xs, xs[i], q, List.getElem?_eq_getElem hlt⟩, Pv (i + 1), fun σ' H' p' => ⟨m - 1, by omega, by omega, p'⟩, fun v H' y => ?_⟩
    obtain ⟨T, x, rfl, hT, rfl, fx⟩ := y
    exact hs i x T σ H (fx xs q) p hT

/-! ### what the loop of takings has -/
def gvn (ps : List Play) (g : List Nat) (b : List Nat) : List Nat := b.foldl Wp.bump g
theorem gvn_length (ps : List Play) : ∀ (b g : List Nat), (gvn ps g b).length = g.length
  | [], _ => rfl
  | x :: r, g => by
    show (gvn ps (Wp.bump g x) r).length = _
    rw [gvn_length ps r, Wp.bump_length]
theorem take_succ' {b : List Nat} {i x : Nat} (h : b[i]? = some x) : b.take (i + 1) = b.take i ++ [x] := by
  rw [List.take_add_one, h]; rfl
theorem gvn_succ (ps : List Play) {b : List Nat} {i x : Nat} (g : List Nat) (h : b[i]? = some x) : gvn ps g (b.take (i + 1)) = Wp.bump (gvn ps g (b.take i)) x := by
  unfold gvn
  rw [take_succ' h, List.foldl_append]; rfl
theorem took_get (come : List Nat) (ps : List Play) : ∀ (b : List Nat) (n : Nat) (g : List Nat) (i x : Nat), b[i]? = some x →
    (Wp.took come ps n g b)[i]? = some (Wp.takes (Wp.pl ps x) ((gvn ps g (b.take i)).getD x 0) (come.getD (n + i) 0))
  | [], _, _, i, x, h => by simp at h
  | y :: r, n, g, 0, x, h => by
    have : y = x := by simpa using h
    subst this
    rfl
  | y :: r, n, g, i + 1, x, h => by
    have ih := took_get come ps r (n + 1) (Wp.bump g y) i x (by simpa using h)
    show (Wp.took come ps (n + 1) (Wp.bump g y) r)[i]? = _
    rw [ih, show n + 1 + i = n + (i + 1) from by omega]
    rfl
theorem took_length (come : List Nat) (ps : List Play) : ∀ (b : List Nat) (n : Nat) (g : List Nat), (Wp.took come ps n g b).length = b.length
  | [], _, _ => rfl
  | y :: r, n, g => by
    show (Wp.took come ps (n + 1) (Wp.bump g y) r).length + 1 = _
    rw [took_length come ps r]; rfl
theorem iv_append (a b : List Nat) : iv (a ++ b) = iv a ++ iv b := List.map_append ..

section
variable {P : Program} {w : World} {K : PySem.W.Frag} {mg : Str → Option Value} {base : Heap} {Cp Cr Co Cs Cw : Addr} {f : Addr} {fd : FuncData}

/-! ### with_length -/
def spWithLen : Sp := fun vs H Q _ => ∃ (l : Addr) (xs : List V), vs = [.ref l] ∧ H l = some (.lst xs) ∧ xs.length ≤ 1000000 ∧
  ∀ H' p, Same H H' → H p = none → H' p = some (.lst (.int (xs.length : Nat) :: xs)) → Q (.ref p) H'
theorem scWithLen : FnScope ["row"] ["row"] (defScope sWithLen) := ⟨rfl, rfl, rfl, by decide +kernel, rfl, by decide +kernel, by decide +kernel⟩
theorem upd_none {H : Hp} {p q : Addr} {o : HO} (h : upd H p o q = none) : H q = none := by
  by_cases e : q = p
  · subst e; rw [upd_same] at h; cases h
  · rw [upd_ne e] at h; exact h
theorem ok_withLen (F : Fun K "with_length" "with_length" sWithLen f fd) (T : Txt K mg Cp Cr Co Cs Cw) : FnOk P w K mg base CX0 1 f fd ["row"] spWithLen := by
  refine F.ok scWithLen (fun vs H Q E h => ?_) (fun cdv A outer s H vs Q E hr h => ⟨_,
    pss_one (ps_ret (pe_op op_cat (pe_lst (pa_cons (pe_callB call_len_seq (by rfl) T.zlen PySem.boot_len (pa_cons (pv 0) pa_nil)) pa_nil)) (pv 0))), ?_⟩)
  · obtain ⟨l, xs, rfl, _⟩ := h
    rfl
  · obtain ⟨l, xs, rfl, h1, hz, q⟩ := h
    refine ⟨_, rfl, l, _, rfl, .inl (SqL.of h1), by show 1 ≤ sizeLine; decide, fun p1 n1 => ⟨_, rfl, p1, l, _, xs, rfl, rfl, upd_same, upd_same_keeps n1 _ _ h1, sz _ (by show 1 + xs.length ≤ 16000000; omega), fun p n => ?_⟩⟩
    exact q _ p ((upd_same_keeps n1).trans (upd_same_keeps n)) (upd_none n) upd_same

/-! ### change_cost -/
def spChange (C : Addr) : Sp := fun vs H Q _ => ∃ (l x : Addr) (ps : List Play) (b n : Nat), vs = [.ref l, .int b, .int n] ∧ PlaysAt C H l ps x ∧ b < ps.length ∧ n < ps.length ∧ Q (.int (Wp.change ps b n : Nat)) H
theorem scChange : FnScope ["plays", "before", "number"] ["plays", "before", "number"] (defScope sChange) := ⟨rfl, rfl, rfl, by decide +kernel, rfl, by decide +kernel, by decide +kernel⟩
theorem vint_inj {a b : Nat} (e : V.int (a : Int) = V.int (b : Int)) : a = b := by
  injection e with e
  exact Int.ofNat.inj e
theorem ok_change (F : Fun K "change_cost" "change_cost" sChange f fd) (T : Txt K mg Cp Cr Co Cs Cw) : FnOk P w K mg base CX0 1 f fd ["plays", "before", "number"] (spChange Cp) := by
  refine F.ok scChange (fun vs H Q E h => ?_) (fun cdv A outer s H vs Q E hr h => ⟨_,
    pss_cons (ps_if (pt_cmpR op_eq (pv 1) (pv 2) (nomark _)) (pss_one (ps_ret pe_int)) pss_nil)
    (pss_one (ps_ret (pe_op op_add (pe_fld (pe_ix ix_list (pv 0) (pv 1) (fun _ _ => rfl)) rfl) (pe_fld (pe_ix ix_list (pv 0) (pv 2) (fun _ _ => rfl)) rfl)))), ?_⟩)
  · obtain ⟨l, x, ps, b, n, rfl, _⟩ := h
    rfl
  · obtain ⟨l, x, ps, b, n, rfl, h1, hb, hn, q⟩ := h
    obtain ⟨as, e0, _, e1⟩ := h1.at_
    obtain ⟨a1, r1, i1, ⟨dx1, p1, _⟩, _⟩ := e1 b hb
    obtain ⟨a2, r2, i2, ⟨dx2, p2, _⟩, _⟩ := e1 n hn
    refine ⟨_, rfl, _, rfl, rfl, _, rfl, dcase (fun c => ?_) fun c => ?_⟩
    · have e : Wp.change ps b n = 0 := if_pos (vint_inj c)
      rw [e] at q
      exact q
    · have e : Wp.change ps b n = (Wp.pl ps b).strike + (Wp.pl ps n).set := if_neg fun z => c (by rw [z])
      refine ⟨_, rfl, _, rfl, l, _, _, _, rfl, rfl, SqL.of e0, atI_nat i1, a1, Cp, dx1, _, _, rfl, p1, T.cp, T.np2, pF_2, _, rfl, _, rfl, l, _, _, _, rfl, rfl, SqL.of e0, atI_nat i2, a2, Cp, dx2, _, _, rfl, p2, T.cp, T.np1, pF_1, _, _, rfl, rfl, ?_⟩
      rw [e] at q
      exact q

/-! ### work_cost -/
def spWork (C : Addr) : Sp := fun vs H Q _ => ∃ (l x lb : Addr) (ps : List Play) (b : List Nat), vs = [.ref l, .ref lb] ∧ PlaysAt C H l ps x ∧ H lb = some (.lst (iv b)) ∧ b.length ≤ 1000000 ∧ (∀ k ∈ b, k < ps.length) ∧ 0 < ps.length ∧
  ∀ H', Same H H' → Q (.int (Wp.work ps 0 b : Nat)) H'
theorem scWork : FnScope ["plays", "bill", "cost", "before", "number"] ["plays", "bill"] (defScope sWork) := ⟨rfl, rfl, rfl, by decide +kernel, rfl, by decide +kernel, by decide +kernel⟩
/-- the work ahead of the i-th turn, the play before -/
def wsum (ps : List Play) : Nat → List Nat → Nat
  | _, [] => 0
  | b, x :: r => Wp.change ps b x + wsum ps x r
def last0 (b : Nat) : List Nat → Nat
  | [] => b
  | x :: r => last0 x r
theorem wsum_all (ps : List Play) : ∀ (b : List Nat) (a : Nat), wsum ps a (b ++ [0]) = Wp.work ps a b
  | [], a => by
    show Wp.change ps a 0 + 0 = Wp.change ps a 0
    rfl
  | x :: r, a => by
    show Wp.change ps a x + wsum ps x (r ++ [0]) = Wp.change ps a x + Wp.work ps x r
    rw [wsum_all ps r]
theorem wsum_snoc (ps : List Play) (y : Nat) : ∀ (b : List Nat) (a : Nat), wsum ps a (b ++ [y]) = wsum ps a b + Wp.change ps (last0 a b) y
  | [], a => by
    show Wp.change ps a y + 0 = 0 + Wp.change ps a y
    omega
  | x :: r, a => by
    show Wp.change ps a x + wsum ps x (r ++ [y]) = Wp.change ps a x + wsum ps x r + Wp.change ps (last0 x r) y
    rw [wsum_snoc ps y r]; omega
theorem last_snoc (y : Nat) : ∀ (b : List Nat) (a : Nat), last0 a (b ++ [y]) = y
  | [], _ => rfl
  | _ :: r, _ => last_snoc y r _
theorem last_lt {m : Nat} : ∀ (b : List Nat) (a : Nat), a < m → (∀ k ∈ b, k < m) → last0 a b < m
  | [], _, h, _ => h
  | x :: r, _, _, h => last_lt r x (h x (by simp)) fun k hk => h k (List.mem_cons_of_mem _ hk)
theorem ok_work {f2' : Addr} {fd2 : FuncData} (F : Fun K "work_cost" "work_cost" sWork f fd) (T : Txt K mg Cp Cr Co Cs Cw) (D : Df K mg "change_cost" "change_cost" sChange f2' fd2) (b2 : Binds K fd2 ["plays", "before", "number"] []) :
    FnOk P w K mg base CX0 2 f fd ["plays", "bill"] (spWork Cp) := by
  have G : FnOk P w K mg base CX0 1 f2' fd2 ["plays", "before", "number"] (spChange Cp) := ok_change D.F T
  refine F.ok scWork (fun vs H Q E h => ?_) (fun cdv A outer s H vs Q E hr h => ⟨_,
    pss_cons (ps_set (i := 2) scWork.nd rfl (.inl rfl) pe_int) (pss_cons (ps_set (i := 3) scWork.nd rfl (.inl rfl) pe_int)
    (pss_cons (ps_for PassesOwn.never rfl (pi_list (pe_op op_cat (pv 1) (pe_lst (pa_cons pe_int pa_nil)))) (pg_name (i := 4) scWork.nd rfl (.inl rfl))
      (pss_cons (ps_aug (i := 2) scWork.nd rfl (.inl rfl) (pe_call G hr rfl D.g D.F.kp b2 .nil pass0 (pa_cons (pv 0) (pa_cons (pv 3) (pa_cons (pv 4) pa_nil)))) ip_add) (pss_one (ps_set (i := 3) scWork.nd rfl (.inl rfl) (pv 4)))))
    (pss_one (ps_ret (pv 2))))), ?_⟩)
  · obtain ⟨l, x, lb, ps, b, rfl, _⟩ := h
    rfl
  · obtain ⟨l, x, lb, ps, b, rfl, h1, h2, hz, hb, h0, q⟩ := h
    refine ⟨_, rfl, by show 1 ≤ sizeLine; decide, fun p1 n1 => ⟨lb, p1, iv b, [.int 0], rfl, rfl, upd_same_keeps n1 _ _ h2, upd_same, sz _ (by rw [iv_length]; show b.length + 1 ≤ _; omega), fun p n => ?_⟩⟩
    have s1 : Same H (upd (upd H p1 (.lst [.int 0])) p (.lst (iv b ++ [.int 0]))) := (upd_same_keeps n1).trans (upd_same_keeps n)
    have el : iv b ++ [V.int 0] = iv (b ++ [0]) := (iv_append b [0]).symm
    rw [el] at s1 ⊢
    refine ⟨p, rfl, ⟨_, SqL.of upd_same⟩, for_list (K := K) (a := p) (xs := iv (b ++ [0])) (fun i σ H' => H' = upd (upd H p1 (.lst [.int 0])) p (.lst (iv (b ++ [0]))) ∧
      ∃ v, σ = [some (.ref l), some (.ref lb), some (.int (wsum ps 0 ((b ++ [0]).take i) : Nat)), some (.int (last0 0 ((b ++ [0]).take i) : Nat)), v]) ⟨rfl, none, rfl⟩ (fun i σ H' _ ⟨e, _⟩ => by rw [e]; exact SqL.of upd_same) ?_ ?_⟩
    · rintro i y σ H' hy ⟨rfl, v, rfl⟩
      obtain ⟨k, hk, rfl⟩ : ∃ k, (b ++ [0])[i]? = some k ∧ y = V.int (k : Nat) := by
        unfold iv at hy
        rw [List.getElem?_map] at hy
        cases e : (b ++ [0])[i]? with
        | none => rw [e] at hy; cases hy
        | some k => rw [e] at hy; exact ⟨k, rfl, (Option.some.inj hy).symm⟩
      have hall : ∀ k ∈ b ++ [0], k < ps.length := fun k hk => by
        rcases List.mem_append.mp hk with hk | hk
        · exact hb k hk
        · have : k = 0 := by simpa using hk
          omega
      have hkl : k < ps.length := hall k (List.mem_of_getElem? hk)
      refine ⟨_, rfl, _, rfl, _, rfl, _, rfl, l, x, ps, _, k, rfl, h1.same s1, last_lt _ 0 h0 fun z hz => hall z (List.mem_of_mem_take hz), hkl, _, _, rfl, rfl, ?_⟩
      refine ⟨_, rfl, rfl, some (.int (k : Nat)), ?_⟩
      rw [take_succ' hk, wsum_snoc, last_snoc]
      rfl
    · rintro σ H' ⟨rfl, v, rfl⟩
      rw [iv_length, List.take_length, wsum_all]
      exact ⟨_, rfl, q _ s1⟩
end
end Wd

/-! The defs of bills.py, further. -/
namespace Wd
open PySem PySem.Spec PyProof.Rows L2 Wr Wh
open Uw05 (Best)
theorem ixn_nat {n j : Nat} (h : j < n) : ixN n ((j : Nat) : Int) = some j := by
  unfold ixN
  rw [if_pos (by omega), if_pos (by omega)]
  rfl
theorem rep_flat : ∀ n : Nat, (List.replicate n [V.int 0]).flatten = iv (List.replicate n 0)
  | 0 => rfl
  | n + 1 => by
    rw [List.replicate_succ, List.replicate_succ, List.flatten_cons, rep_flat n]
    rfl
theorem Same.put {H H' : Hp} (k : Same H H') {g : Addr} {o : HO} (n : H g = none) : Same H (upd H' g o) := fun b u e => by
  rw [upd_ne (ne_of_none e n)]
  exact k b u e
theorem iv_set (g : List Nat) (j x : Nat) : (iv g).set j (V.int (x : Nat)) = iv (g.set j x) := by
  unfold iv
  rw [List.map_set]
theorem iv_at {g : List Nat} {i : Nat} {y : V} (h : (iv g)[i]? = some y) : ∃ k, g[i]? = some k ∧ y = V.int (k : Nat) := by
  unfold iv at h
  rw [List.getElem?_map] at h
  cases e : g[i]? with
  | none => rw [e] at h; cases h
  | some k => rw [e] at h; exact ⟨k, rfl, (Option.some.inj h).symm⟩
/-- what the plays of a week keep to -/
structure Plays (ps : List Play) : Prop where
  pos : 0 < ps.length
  few : ps.length ≤ 5
  b1 : ∀ k, k < ps.length → 1 ≤ (Wp.pl ps k).brings.length
  b2 : ∀ k, k < ps.length → ∀ x ∈ (Wp.pl ps k).brings, x ≤ 100000
section
variable {P : Program} {w : World} {K : PySem.W.Frag} {mg : Str → Option Value} {base : Heap} {Cp Cr Co Cs Cw : Addr} {f : Addr} {fd : FuncData}

/-! ### takings -/
def spTakings (C : Addr) : Sp := fun vs H Q _ => ∃ (lc l x lb : Addr) (come : List Nat) (ps : List Play) (b : List Nat), vs = [.ref lc, .ref l, .ref lb] ∧ H lc = some (.lst (iv come)) ∧ PlaysAt C H l ps x ∧ H lb = some (.lst (iv b)) ∧
  b.length ≤ come.length ∧ b.length ≤ 1000000 ∧ (∀ k ∈ b, k < ps.length) ∧ Plays ps ∧
  ∀ H' p, Same H H' → H p = none → H' p = some (.lst (iv (Wp.took come ps 0 (Wp.zeros ps) b))) → Q (.ref p) H'
theorem scTakings : FnScope ["come", "plays", "bill", "given", "taken", "night", "number"] ["come", "plays", "bill"] (defScope sTakings) := ⟨rfl, rfl, rfl, by decide +kernel, rfl, by decide +kernel, by decide +kernel⟩
theorem ok_takings {f2' : Addr} {fd2 : FuncData} (F : Fun K "takings" "takings" sTakings f fd) (T : Txt K mg Cp Cr Co Cs Cw) (D : Mt K Cp "takes" "Play.takes" sTakes f2' fd2) (b2 : Binds K fd2 ["self", "times", "come"] []) :
    FnOk P w K mg base CX0 2 f fd ["come", "plays", "bill"] (spTakings Cp) := by
  have G : FnOk P w K mg base CX0 1 f2' fd2 ["self", "times", "come"] (spTakes Cp) := ok_takes D.F T
  refine F.ok scTakings (fun vs H Q E h => ?_) (fun cdv A outer s H vs Q E hr h => ⟨_,
    pss_cons (ps_set (i := 3) scTakings.nd rfl (.inl rfl) (pe_op op_rep (pe_lst (pa_cons pe_int pa_nil)) (pe_callB call_len_seq (by rfl) T.zlen PySem.boot_len (pa_cons (pv 1) pa_nil))))
    (pss_cons (ps_set (i := 4) scTakings.nd rfl (.inl rfl) (pe_lst pa_nil))
    (pss_cons (ps_for PassesOwn.never rfl (pi_enum (by rfl) T.zenum (pa_cons (pv 2) pa_nil)) (pg_tup rfl (pgs_cons (pg_name (i := 5) scTakings.nd rfl (.inl rfl)) (pgs_cons (pg_name (i := 6) scTakings.nd rfl (.inl rfl)) pgs_nil)))
      (pss_cons (ps_expr (pe_bm PySem.F.plainAttrs_list PySem.F.slot_list_append PySem.F.type_list_append mt_append (pv 4)
        (pa_cons (pe_meth (pe_ix ix_list (pv 1) (pv 6) (fun _ _ => rfl)) T.cp D.m G hr b2 .nil pass0 (pa_cons (pe_ix ix_list (pv 3) (pv 6) (fun _ _ => rfl)) (pa_cons (pe_ix ix_list (pv 0) (pv 5) (fun _ _ => rfl)) pa_nil))) pa_nil)))
      (pss_one (ps_augS (pv 3) (pv 6) get_list pe_int ip_add set_list))))
    (pss_one (ps_ret (pv 4))))), ?_⟩)
  · obtain ⟨lc, l, x, lb, come, ps, b, rfl, _⟩ := h
    rfl
  · obtain ⟨lc, l, x, lb, come, ps, b, rfl, hc, h1, h2, hbc, hz, hb, hp, q⟩ := h
    obtain ⟨as, e0, el, e1⟩ := h1.at_
    refine ⟨by show 1 ≤ sizeLine; decide, fun p1 n1 => ⟨_, rfl, l, _, rfl, .inl (SqL.of (upd_same_keeps n1 _ _ e0)), p1, _, _, rfl, rfl, upd_same, ?_⟩⟩
    have hlen : (as.map V.ref).length = ps.length := by rw [List.length_map, el]
    rw [hlen]
    have hf := hp.few
    refine ⟨by omega, by omega, sz _ (by show 1 * ((ps.length : Nat) : Int).toNat ≤ _; omega), fun g ng => ?_⟩
    rw [Int.toNat_natCast, rep_flat]
    refine ⟨by show 0 ≤ sizeLine; decide, fun tk ntk => ?_⟩
    have k1 : Same H (upd H p1 (.lst [.int 0])) := upd_same_keeps n1
    have k2 : Same H (upd (upd H p1 (.lst [.int 0])) g (.lst (iv (List.replicate ps.length 0)))) := Same.step k1 ng
    have k3 : Same H (upd (upd (upd H p1 (.lst [.int 0])) g (.lst (iv (List.replicate ps.length 0)))) tk (.lst [])) := Same.step k2 ntk
    have ng0 : H g = none := k1.free ng
    have nt0 : H tk = none := k2.free ntk
    have gt : g ≠ tk := fun e => by rw [← e, upd_same] at ntk; cases ntk
    have hgl : ∀ i, (gvn ps (Wp.zeros ps) (b.take i)).length = ps.length := fun i => by
      rw [gvn_length]
      exact List.length_replicate
    refine ⟨_, rfl, lb, _, rfl, SqL.of (k3 _ _ h2), for_enum (xs := iv b) (fun i σ H' => ∃ v5 v6, σ = [some (.ref lc), some (.ref l), some (.ref lb), some (.ref g), some (.ref tk), v5, v6] ∧ Same H H' ∧
      H' g = some (.lst (iv (gvn ps (Wp.zeros ps) (b.take i)))) ∧ H' tk = some (.lst (iv ((Wp.took come ps 0 (Wp.zeros ps) b).take i))))
      ⟨none, none, rfl, k3, by rw [upd_ne gt]; exact upd_same, upd_same⟩ (fun i σ H' ⟨_, _, _, k, _⟩ => SqL.of (k _ _ h2)) ?_ ?_⟩
    · rintro i y Tt σ H' hy ⟨v5, v6, rfl, k, kg, kt⟩ nT
      obtain ⟨n, hn, rfl⟩ := iv_at hy
      have hil : i < b.length := (List.getElem?_eq_some_iff.mp hn).1
      have hnl : n < ps.length := hb n (List.mem_of_getElem? hn)
      have k' : Same H (upd H' Tt (.tup [.int (i : Nat), .int (n : Nat)])) := Same.step k nT
      obtain ⟨a, r, ia, pa, _⟩ := e1 n hnl
      have pa' := pa.keeps fun b o e _ => k' b o e
      obtain ⟨dx, pa1, _⟩ := id pa'
      have gT : g ≠ Tt := ne_of_none kg nT
      have tT : tk ≠ Tt := ne_of_none kt nT
      refine ⟨Tt, _, rfl, SqT.of upd_same, rfl, _, _, rfl, _, _, rfl, rfl, ?_⟩
      have hg' : (iv (gvn ps (Wp.zeros ps) (b.take i)))[n]? = some (V.int ((gvn ps (Wp.zeros ps) (b.take i)).getD n 0 : Nat)) := iv_get (get_some (by rw [hgl]; exact hnl))
      refine ⟨_, rfl, .inl ⟨rfl, _, SqL.of (by rw [upd_ne tT]; exact kt)⟩, _, rfl, _, rfl, l, _, _, _, rfl, rfl, SqL.of (k' _ _ e0), atI_nat ia, a, dx, _, rfl, pa1, pF_no (by decide +kernel), ?_⟩
      refine ⟨_, rfl, _, rfl, g, _, _, _, rfl, rfl, SqL.of (by rw [upd_ne gT]; exact kg), atI_nat hg', _, rfl, _, rfl, lc, _, _, _, rfl, rfl, SqL.of (k' _ _ hc), atI_nat (iv_get (get_some (by omega))), ?_⟩
      refine ⟨a, Wp.pl ps n, r, _, _, rfl, pa', hp.b1 n hnl, hp.b2 n hnl, ?_⟩
      refine ⟨tk, _, _, rfl, rfl, by rw [upd_ne tT]; exact kt, ?_, ?_⟩
      · rw [iv_length, List.length_take]
        have : min i (Wp.took come ps 0 (Wp.zeros ps) b).length ≤ i := Nat.min_le_left ..
        exact Nat.lt_of_lt_of_le (by omega : _ < 2000000) (by decide)
      · refine ⟨_, rfl, _, rfl, g, _, n, _, rfl, rfl, SqL.of (by rw [upd_ne gt, upd_ne gT]; exact kg), hg', _, _, rfl, rfl, g, _, _, n, rfl, rfl, by rw [upd_ne gt, upd_ne gT]; exact kg, ixn_nat (by rw [iv_length, hgl]; exact hnl), ?_⟩
        refine ⟨_, _, rfl, Same.put (Same.put k' nt0) ng0, ?_, ?_⟩
        · rw [upd_same, gvn_succ ps _ hn]
          exact congrArg (fun z => some (HO.lst z)) (iv_set _ _ _)
        · rw [upd_ne (Ne.symm gt), upd_same, take_succ' (took_get come ps b 0 (Wp.zeros ps) i n hn), iv_append, Nat.zero_add]
          rfl
    · rintro σ H' ⟨v5, v6, rfl, k, kg, kt⟩
      refine ⟨_, rfl, q _ tk k nt0 ?_⟩
      rw [kt, iv_length, ← took_length come ps b 0 (Wp.zeros ps), List.take_length]
end
end Wd

/-! The defs of bills.py, to their end. -/
namespace Wd
open PySem PySem.Spec PyProof.Rows L2 Wr Wh
open Uw05 (Best)
theorem iv_cons (x : Nat) (g : List Nat) : iv (x :: g) = V.int (x : Nat) :: iv g := rfl
/-- what is told of a bill, behind its lengths -/
def told (come : List Nat) (ps : List Play) (b : List Nat) : List Nat :=
  (b.length :: b) ++ (b.length :: Wp.took come ps 0 (Wp.zeros ps) b) ++ [2, (Wp.took come ps 0 (Wp.zeros ps) b).sum, Wp.work ps 0 b]
theorem cast_sum : ∀ g : List Nat, (g.map fun k : Nat => (k : Int)).sum = ((g.sum : Nat) : Int)
  | [] => rfl
  | x :: r => by
    rw [List.map_cons, List.sum_cons, List.sum_cons, cast_sum r]
    omega
def badNight (ps : List Play) (b : List Nat) (i : Nat) : Bool := decide (0 < i) && (decide (b.getD (i - 1) 0 = b.getD i 0) && !(Wp.pl ps (b.getD i 0)).runs)
def wn (ps : List Play) (b : List Nat) : List Nat := match (List.range b.length).find? (badNight ps b) with
  | some i => [1, i]
  | none => []
def badPlay (ps : List Play) (b : List Nat) (k : Nat) : List Nat :=
  if Uw05.times b k < (Wp.pl ps k).least then [2, k] else if (Wp.pl ps k).most < Uw05.times b k then [3, k] else []
def wpl (ps : List Play) (b : List Nat) : List Nat := match (List.range ps.length).find? (fun k => !(badPlay ps b k).isEmpty) with
  | some k => badPlay ps b k
  | none => []
def fw (ps : List Play) (b : List Nat) : List Nat := if (wn ps b).isEmpty = true then wpl ps b else wn ps b
theorem wn_some {ps : List Play} {b : List Nat} {i : Nat} (h : i < b.length) (hb : badNight ps b i = true) (hn : ∀ j, j < i → badNight ps b j = false) : wn ps b = [1, i] := by
  unfold wn
  rw [Wp.find_some h hb hn]
theorem wn_none {ps : List Play} {b : List Nat} (hn : ∀ j, j < b.length → badNight ps b j = false) : wn ps b = [] := by
  unfold wn
  rw [Wp.find_none.mpr hn]
theorem wpl_some {ps : List Play} {b : List Nat} {k : Nat} (h : k < ps.length) (hb : badPlay ps b k ≠ []) (hn : ∀ j, j < k → badPlay ps b j = []) : wpl ps b = badPlay ps b k := by
  unfold wpl
  rw [Wp.find_some (p := fun k => !(badPlay ps b k).isEmpty) h (by
    cases e : badPlay ps b k with
    | nil => exact absurd e hb
    | cons _ _ => rfl) (fun j hj => by rw [hn j hj]; rfl)]
theorem wpl_none {ps : List Play} {b : List Nat} (hn : ∀ j, j < ps.length → badPlay ps b j = []) : wpl ps b = [] := by
  unfold wpl
  rw [Wp.find_none.mpr fun j hj => by rw [hn j hj]; rfl]
theorem yes_ne (b : Bool) : (yes b != 0) = b := by cases b <;> rfl
section
variable {P : Program} {w : World} {K : PySem.W.Frag} {mg : Str → Option Value} {base : Heap} {Cp Cr Co Cs Cw : Addr} {f : Addr} {fd : FuncData}

/-! ### reckoning -/
def spReck (C : Addr) : Sp := fun vs H Q _ => ∃ (lc l x lb : Addr) (come : List Nat) (ps : List Play) (b : List Nat), vs = [.ref lc, .ref l, .ref lb] ∧ H lc = some (.lst (iv come)) ∧ PlaysAt C H l ps x ∧ H lb = some (.lst (iv b)) ∧
  b.length ≤ come.length ∧ b.length ≤ 100000 ∧ (∀ k ∈ b, k < ps.length) ∧ Plays ps ∧
  ∀ H' p, Same H H' → H p = none → H' p = some (.lst (iv (told come ps b))) → Q (.ref p) H'
theorem scReck : FnScope ["come", "plays", "bill", "taken", "totals"] ["come", "plays", "bill"] (defScope sReckon) := ⟨rfl, rfl, rfl, by decide +kernel, rfl, by decide +kernel, by decide +kernel⟩
theorem ok_reck {f1 f2' f3' : Addr} {fd1 fd2 fd3 : FuncData} (F : Fun K "reckoning" "reckoning" sReckon f fd) (T : Txt K mg Cp Cr Co Cs Cw)
    (gT : mg "takings" = some (.ref f1)) (kT : PySem.W.keepIn K (.ref f1) = true) (bT : Binds K fd1 ["come", "plays", "bill"] []) (FT : FnOk P w K mg base CX0 2 f1 fd1 ["come", "plays", "bill"] (spTakings Cp))
    (gW : mg "work_cost" = some (.ref f2')) (kW : PySem.W.keepIn K (.ref f2') = true) (bW : Binds K fd2 ["plays", "bill"] []) (FW : FnOk P w K mg base CX0 2 f2' fd2 ["plays", "bill"] (spWork Cp))
    (gL : mg "with_length" = some (.ref f3')) (kL : PySem.W.keepIn K (.ref f3') = true) (bL : Binds K fd3 ["row"] []) (FL : FnOk P w K mg base CX0 1 f3' fd3 ["row"] spWithLen) :
    FnOk P w K mg base CX0 3 f fd ["come", "plays", "bill"] (spReck Cp) := by
  refine F.ok scReck (fun vs H Q E h => ?_) (fun cdv A outer s H vs Q E hr h => ⟨_,
    have hr1 : Room 1 _ := hr.mono (by decide)
    pss_cons (ps_set (i := 3) scReck.nd rfl (.inl rfl) (pe_call FT hr rfl gT kT bT .nil pass0 (pa_cons (pv 0) (pa_cons (pv 1) (pa_cons (pv 2) pa_nil)))))
    (pss_cons (ps_set (i := 4) scReck.nd rfl (.inl rfl) (pe_lst (pa_cons (pe_callB (cr_sum rfl) (by rfl) T.zsum (by decide +kernel) (pa_cons (pv 3) pa_nil)) (pa_cons (pe_call FW hr rfl gW kW bW .nil pass0 (pa_cons (pv 1) (pa_cons (pv 2) pa_nil))) pa_nil))))
    (pss_one (ps_ret (pe_op op_cat (pe_op op_cat (pe_call FL hr1 rfl gL kL bL .nil pass0 (pa_cons (pv 2) pa_nil)) (pe_call FL hr1 rfl gL kL bL .nil pass0 (pa_cons (pv 3) pa_nil))) (pe_call FL hr1 rfl gL kL bL .nil pass0 (pa_cons (pv 4) pa_nil)))))), ?_⟩)
  · obtain ⟨lc, l, x, lb, come, ps, b, rfl, _⟩ := h
    rfl
  · obtain ⟨lc, l, x, lb, come, ps, b, rfl, hc, h1, h2, hbc, hz, hb, hp, q⟩ := h
    have tl := took_length come ps b 0 (Wp.zeros ps)
    refine ⟨_, rfl, _, rfl, _, rfl, lc, l, x, lb, come, ps, b, rfl, hc, h1, h2, hbc, by omega, hb, hp, fun H1 tk k1 nt et => ?_⟩
    refine ⟨_, rfl, tk, (Wp.took come ps 0 (Wp.zeros ps) b).map fun k : Nat => (k : Int), rfl, SqL.of (by rw [← iv_ints]; exact et), ?_⟩
    rw [cast_sum]
    refine ⟨_, rfl, _, rfl, l, x, lb, ps, b, rfl, h1.same k1, k1 _ _ h2, by omega, hb, hp.pos, fun H2 k2 => ?_⟩
    refine ⟨by show 2 ≤ sizeLine; decide, fun tt ntt => ?_⟩
    have k3 : Same H1 (upd H2 tt (.lst (iv [(Wp.took come ps 0 (Wp.zeros ps) b).sum, Wp.work ps 0 b]))) := Same.step k2 ntt
    have kk : Same H (upd H2 tt (.lst (iv [(Wp.took come ps 0 (Wp.zeros ps) b).sum, Wp.work ps 0 b]))) := k1.trans k3
    refine ⟨_, rfl, lb, iv b, rfl, kk _ _ h2, by rw [iv_length]; omega, fun H4 p4 k4 n4 e4 => ?_⟩
    refine ⟨_, rfl, tk, _, rfl, k4 _ _ (k3 _ _ et), by rw [iv_length, tl]; omega, fun H5 p5 k5 n5 e5 => ?_⟩
    rw [iv_length] at e4 e5
    rw [tl] at e5
    rw [← iv_cons] at e4 e5
    refine ⟨p4, p5, _, _, rfl, rfl, k5 _ _ e4, e5, ?_, fun p6 n6 => ?_⟩
    · refine sz _ ?_
      rw [iv_length, iv_length, List.length_cons, List.length_cons, tl]; omega
    have k6 := Same.step (o := .lst (iv (b.length :: b) ++ iv (b.length :: Wp.took come ps 0 (Wp.zeros ps) b))) k5 n6
    refine ⟨_, rfl, tt, _, rfl, k6 _ _ (k4 _ _ upd_same), by show 2 ≤ 1000000; decide, fun H7 p7 k7 n7 e7 => ?_⟩
    refine ⟨p6, p7, _, _, rfl, rfl, k7 _ _ upd_same, e7, ?_, fun p8 n8 => ?_⟩
    · refine sz _ ?_
      rw [List.length_append, List.length_cons, iv_length, iv_length, List.length_cons, List.length_cons, tl]
      show _ + (2 + 1) ≤ _
      omega
    · have kall : Same H (upd H7 p8 (.lst (iv (b.length :: b) ++ iv (b.length :: Wp.took come ps 0 (Wp.zeros ps) b) ++ (.int ((iv [(Wp.took come ps 0 (Wp.zeros ps) b).sum, Wp.work ps 0 b]).length : Nat) :: iv [(Wp.took come ps 0 (Wp.zeros ps) b).sum, Wp.work ps 0 b])))) :=
        Same.step ((kk.trans k4).trans (k6.trans k7)) n8
      refine q _ p8 kall (((kk.trans k4).trans (k6.trans k7)).free n8) ?_
      rw [upd_same]
      refine congrArg (fun z => some (HO.lst z)) ?_
      unfold told
      rw [iv_append, iv_append]
      rfl

/-! ### what is wrong -/
def spWrong (r : List Play → List Nat → List Nat) (C : Addr) : Sp := fun vs H Q _ => ∃ (l x lb : Addr) (ps : List Play) (b : List Nat), vs = [.ref l, .ref lb] ∧ PlaysAt C H l ps x ∧ H lb = some (.lst (iv b)) ∧
  b.length ≤ 100000 ∧ (∀ k ∈ b, k < ps.length) ∧
  ∀ H' p, Same H H' → H p = none → H' p = some (.lst (iv (r ps b))) → Q (.ref p) H'
theorem scWrongN : FnScope ["plays", "bill", "night", "number"] ["plays", "bill"] (defScope sWrongNight) := ⟨rfl, rfl, rfl, by decide +kernel, rfl, by decide +kernel, by decide +kernel⟩
theorem ok_wrongN (F : Fun K "wrong_night" "wrong_night" sWrongNight f fd) (T : Txt K mg Cp Cr Co Cs Cw) : FnOk P w K mg base CX0 1 f fd ["plays", "bill"] (spWrong wn Cp) := by
  refine F.ok scWrongN (fun vs H Q E h => ?_) (fun cdv A outer s H vs Q E hr h => ⟨_,
    pss_cons (ps_for PassesOwn.never rfl (pi_range2 rfl T.zrange (pa_cons pe_int (pa_cons (pe_callB call_len_seq (by rfl) T.zlen PySem.boot_len (pa_cons (pv 1) pa_nil)) pa_nil))) (pg_name (i := 2) scWrongN.nd rfl (.inl rfl))
      (pss_cons (ps_set (i := 3) scWrongN.nd rfl (.inl rfl) (pe_ix ix_list (pv 1) (pv 2) (fun _ _ => rfl)))
      (pss_one (ps_if (pw_and (pt_cmpR op_eq (pv 3) (pe_ix ix_list (pv 1) (pe_op op_sub (pv 2) pe_int) (fun _ _ => rfl)) (nomark _)) (pw_and1 (pt_not (pt_truth (pe_fld (pe_ix ix_list (pv 0) (pv 3) (fun _ _ => rfl)) rfl) (fun _ => rfl))))).pt
        (pss_one (ps_ret (pe_lst (pa_cons (pe_k T.kTwice) (pa_cons (pv 2) pa_nil))))) pss_nil))))
    (pss_one (ps_ret (pe_lst pa_nil))), ?_⟩)
  · obtain ⟨l, x, lb, ps, b, rfl, _⟩ := h
    rfl
  · obtain ⟨l, x, lb, ps, b, rfl, h1, h2, hz, hb, q⟩ := h
    obtain ⟨as, e0, el, e1⟩ := h1.at_
    refine ⟨_, rfl, lb, _, rfl, .inl (SqL.of h2), ?_⟩
    rw [iv_length]
    refine ⟨1, ((b.length : Nat) : Int), rfl, ⟨by decide, by decide, by omega, by omega⟩, for_range (lo := 1) (n := (((b.length : Nat) : Int) - 1).toNat) (fun i σ H' => H' = H ∧ (∃ v2 v3, σ = [some (.ref l), some (.ref lb), v2, v3]) ∧ ∀ j, j < i + 1 → badNight ps b j = false)
      ⟨rfl, ⟨none, none, rfl⟩, fun j hj => ?_⟩ ?_ ?_⟩
    · have : j = 0 := by omega
      subst this
      rfl
    · rintro i σ H' hi ⟨rfl, ⟨v2, v3, rfl⟩, hj⟩
      have hil : i + 1 < b.length := by omega
      have hk : b.getD (i + 1) 0 < ps.length := hb _ (List.mem_of_getElem? (get_some hil))
      obtain ⟨a, r, ia, ⟨dx, pa, _⟩, _⟩ := e1 _ hk
      have c1 : ((1 : Int) + (i : Nat)) = ((i + 1 : Nat) : Int) := by omega
      refine ⟨_, rfl, _, rfl, lb, _, _, _, rfl, rfl, SqL.of h2, at_of c1 (iv_get (get_some hil)), ?_⟩
      refine ⟨_, rfl, _, rfl, _, rfl, _, _, rfl, rfl, lb, _, _, _, rfl, rfl, SqL.of h2, at_of (j := i) (by omega) (iv_get (get_some (by omega))), rfl, _, rfl, dcase (fun c => ?_) fun c => iteF ?_⟩
      · have ce : b.getD (i + 1) 0 = b.getD i 0 := vint_inj c
        refine ⟨_, rfl, _, rfl, l, _, _, _, rfl, rfl, SqL.of e0, atI_nat ia, a, Cp, dx, _, _, rfl, pa, T.cp, T.np3, pF_3, _, rfl, ?_⟩
        rw [yes_ne]
        have bad : badNight ps b (i + 1) = !(Wp.pl ps (b.getD (i + 1) 0)).runs := by
          unfold badNight
          rw [decide_eq_true (Nat.succ_pos i), Nat.add_sub_cancel, decide_eq_true ce.symm]
          rfl
        cases hrn : (Wp.pl ps (b.getD (i + 1) 0)).runs with
        | true =>
          refine iteF ⟨rfl, ⟨_, _, rfl⟩, fun j hj' => ?_⟩
          by_cases e : j = i + 1
          · rw [e, bad, hrn]; rfl
          · exact hj j (by omega)
        | false =>
          refine iteT ⟨_, rfl, by show 2 ≤ sizeLine; decide, fun p n => ?_⟩
          refine q _ p (upd_same_keeps n) n ?_
          rw [upd_same, wn_some hil (by rw [bad, hrn]; rfl) (fun j hj' => hj j (by omega))]
          refine congrArg (fun z => some (HO.lst z)) ?_
          show [V.int 1, V.int ((1 : Int) + (i : Nat))] = [V.int ((1 : Nat) : Int), V.int ((i + 1 : Nat) : Int)]
          rw [c1]; rfl
      · refine ⟨rfl, ⟨_, _, rfl⟩, fun j hj' => ?_⟩
        by_cases e : j = i + 1
        · subst e
          unfold badNight
          have e0 : decide (b.getD i 0 = b.getD (i + 1) 0) = false := decide_eq_false fun z => c (by rw [z])
          rw [Nat.add_sub_cancel, e0]
          simp
        · exact hj j (by omega)
    · rintro σ H' ⟨rfl, ⟨v2, v3, rfl⟩, hj⟩
      refine ⟨by show 0 ≤ sizeLine; decide, fun p n => ?_⟩
      refine q _ p (upd_same_keeps n) n ?_
      rw [upd_same, wn_none fun j hj' => hj j (by omega)]
      rfl
theorem scWrongP : FnScope ["plays", "bill", "number", "play", "times"] ["plays", "bill"] (defScope sWrongPlay) := ⟨rfl, rfl, rfl, by decide +kernel, rfl, by decide +kernel, by decide +kernel⟩
theorem count_cast (b : List Nat) (k : Nat) : ((b.map fun j : Nat => (j : Int)).count (k : Int)) = b.count k := by
  induction b with
  | nil => rfl
  | cons x r ih =>
    rw [List.map_cons, List.count_cons, List.count_cons, ih]
    by_cases e : x = k
    · subst e; simp
    · have e1 : ((x : Int) == (k : Int)) = false := beq_eq_false_iff_ne.mpr fun z => e (Int.ofNat.inj z)
      have e2 : (x == k) = false := beq_eq_false_iff_ne.mpr e
      rw [e1, e2]
theorem ok_wrongP (F : Fun K "wrong_play" "wrong_play" sWrongPlay f fd) (T : Txt K mg Cp Cr Co Cs Cw) : FnOk P w K mg base CX0 1 f fd ["plays", "bill"] (spWrong wpl Cp) := by
  refine F.ok scWrongP (fun vs H Q E h => ?_) (fun cdv A outer s H vs Q E hr h => ⟨_,
    pss_cons (ps_for PassesOwn.never rfl (pi_enum (by rfl) T.zenum (pa_cons (pv 0) pa_nil)) (pg_tup rfl (pgs_cons (pg_name (i := 2) scWrongP.nd rfl (.inl rfl)) (pgs_cons (pg_name (i := 3) scWrongP.nd rfl (.inl rfl)) pgs_nil)))
      (pss_cons (ps_set (i := 4) scWrongP.nd rfl (.inl rfl) (pe_bm PySem.F.plainAttrs_list PySem.F.slot_list_count PySem.F.type_list_count mt_lcount (pv 1) (pa_cons (pv 2) pa_nil)))
      (pss_cons (ps_if (pt_cmpR op_lt (pv 4) (pe_fld (pv 3) rfl) (nomark _)) (pss_one (ps_ret (pe_lst (pa_cons (pe_k T.kSeldom) (pa_cons (pv 2) pa_nil))))) pss_nil)
      (pss_one (ps_if (pt_cmpR op_gt (pv 4) (pe_fld (pv 3) rfl) (nomark _)) (pss_one (ps_ret (pe_lst (pa_cons (pe_k T.kOften) (pa_cons (pv 2) pa_nil))))) pss_nil)))))
    (pss_one (ps_ret (pe_lst pa_nil))), ?_⟩)
  · obtain ⟨l, x, lb, ps, b, rfl, _⟩ := h
    rfl
  · obtain ⟨l, x, lb, ps, b, rfl, h1, h2, hz, hb, q⟩ := h
    obtain ⟨as, e0, el, e1⟩ := h1.at_
    refine ⟨_, rfl, l, _, rfl, SqL.of e0, for_enum (xs := as.map V.ref) (fun i σ H' => Same H H' ∧ (∃ v2 v3 v4, σ = [some (.ref l), some (.ref lb), v2, v3, v4]) ∧ ∀ j, j < i → badPlay ps b j = [])
      ⟨Same.refl H, ⟨none, none, none, rfl⟩, fun j hj => absurd hj (Nat.not_lt_zero j)⟩ (fun i σ H' ⟨k, _⟩ => SqL.of (k _ _ e0)) ?_ ?_⟩
    · rintro i y Tt σ H' hy ⟨k, ⟨v2, v3, v4, rfl⟩, hj⟩ nT
      have hil : i < ps.length := by
        have := (List.getElem?_eq_some_iff.mp hy).1
        rw [List.length_map] at this; omega
      obtain ⟨a, r, ia, pa, _⟩ := e1 i hil
      rw [ia] at hy
      cases hy
      have k' : Same H (upd H' Tt (.tup [.int (i : Nat), .ref a])) := Same.step k nT
      obtain ⟨dx, pa1, _⟩ := pa.keeps fun b o e _ => k' b o e
      refine ⟨Tt, _, rfl, SqT.of upd_same, rfl, _, _, rfl, _, _, rfl, rfl, ?_⟩
      refine ⟨_, rfl, .inl ⟨rfl, _, SqL.of (k' _ _ h2)⟩, _, rfl, lb, b.map (fun j : Nat => (j : Int)), (i : Int), rfl, rfl, SqL.of (by rw [← iv_ints]; exact k' _ _ h2), ?_⟩
      rw [count_cast, ← Wp.times_count]
      have done : ∀ (v : Nat), badPlay ps b i = [v, i] → ∀ H2 p, Same H H2 → H2 p = none → Q (.ref p) (upd H2 p (.lst [.int (v : Nat), .int (i : Nat)])) := fun v hv H2 p k2 n2 => by
        refine q _ p (Same.step k2 n2) (k2.free n2) ?_
        rw [upd_same, wpl_some hil (by rw [hv]; simp) hj, hv]
        rfl
      refine ⟨_, rfl, _, rfl, a, Cp, dx, _, _, rfl, pa1, T.cp, T.np4, pF_4, _, _, rfl, rfl, _, rfl, dcase (fun c => ?_) fun c => ?_⟩
      · refine ⟨_, rfl, by show 2 ≤ sizeLine; decide, fun p n => ?_⟩
        exact done 2 (if_pos (by omega)) _ p k' n
      refine ⟨_, rfl, _, rfl, a, Cp, dx, _, _, rfl, pa1, T.cp, T.np5, pF_5, _, _, rfl, rfl, _, rfl, dcase (fun c' => ?_) fun c' => ?_⟩
      · refine ⟨_, rfl, by show 2 ≤ sizeLine; decide, fun p n => ?_⟩
        exact done 3 ((if_neg (by omega)).trans (if_pos (by omega))) _ p k' n
      refine ⟨k', ⟨_, _, _, rfl⟩, fun j hj' => ?_⟩
      by_cases e : j = i
      · subst e
        exact (if_neg (by omega)).trans (if_neg (by omega))
      · exact hj j (by omega)
    · rintro σ H' ⟨k, ⟨v2, v3, v4, rfl⟩, hj⟩
      refine ⟨by show 0 ≤ sizeLine; decide, fun p n => ?_⟩
      refine q _ p (Same.step k n) (k.free n) ?_
      rw [List.length_map, el] at hj
      rw [upd_same, wpl_none hj]
      rfl
theorem scFirst : FnScope ["plays", "bill"] ["plays", "bill"] (defScope sFirstWrong) := ⟨rfl, rfl, rfl, by decide +kernel, rfl, by decide +kernel, by decide +kernel⟩
theorem ok_first {f1 f2' : Addr} {fd1 fd2 : FuncData} (F : Fun K "first_wrong" "first_wrong" sFirstWrong f fd) (T : Txt K mg Cp Cr Co Cs Cw)
    (g1 : mg "wrong_night" = some (.ref f1)) (k1 : PySem.W.keepIn K (.ref f1) = true) (b1 : Binds K fd1 ["plays", "bill"] []) (F1 : FnOk P w K mg base CX0 1 f1 fd1 ["plays", "bill"] (spWrong wn Cp))
    (g2 : mg "wrong_play" = some (.ref f2')) (k2 : PySem.W.keepIn K (.ref f2') = true) (b2 : Binds K fd2 ["plays", "bill"] []) (F2 : FnOk P w K mg base CX0 1 f2' fd2 ["plays", "bill"] (spWrong wpl Cp)) :
    FnOk P w K mg base CX0 2 f fd ["plays", "bill"] (spWrong fw Cp) := by
  refine F.ok scFirst (fun vs H Q E h => ?_) (fun cdv A outer s H vs Q E hr h => ⟨_,
    pss_one (ps_ret (pe_orT (pe_call F1 hr rfl g1 k1 b1 .nil pass0 (pa_cons (pv 0) (pa_cons (pv 1) pa_nil))) (pe_one (pe_call F2 hr rfl g2 k2 b2 .nil pass0 (pa_cons (pv 0) (pa_cons (pv 1) pa_nil)))))), ?_⟩)
  · obtain ⟨l, x, lb, ps, b, rfl, _⟩ := h
    rfl
  · obtain ⟨l, x, lb, ps, b, rfl, h1, h2, hz, hb, q⟩ := h
    refine ⟨_, rfl, _, rfl, l, x, lb, ps, b, rfl, h1, h2, hz, hb, fun H1 p1 k1' n1 e1 => ⟨_, .inl ⟨_, SqL.of e1, rfl⟩, ?_⟩⟩
    have em : (iv (wn ps b)).isEmpty = (wn ps b).isEmpty := by cases wn ps b <;> rfl
    rw [em]
    cases hw : (wn ps b).isEmpty with
    | false =>
      refine iteT (q H1 p1 k1' n1 ?_)
      have e : fw ps b = wn ps b := if_neg (by rw [hw]; exact Bool.false_ne_true)
      rw [e]; exact e1
    | true =>
      refine iteF ⟨_, rfl, _, rfl, l, x, lb, ps, b, rfl, h1.same k1', k1' _ _ h2, hz, hb, fun H2 p2 k2' n2 e2 => q H2 p2 (k1'.trans k2') (k1'.free n2) ?_⟩
      have e : fw ps b = wpl ps b := if_pos hw
      rw [e]; exact e2
end
end Wd

/-! The defs of search.py: the outlooks, one_more, at_the_end. -/
namespace Wd
open PySem PySem.Spec PyProof.Rows L2 Wr Wh
open Uw05 (Best)
theorem f3_1 {a b c : Str} {x y z : V} : (f3 a x b y c z).lookup a = some x := lk_here
theorem f3_2 {a b c : Str} {x y z : V} (h : (b == a) = false) : (f3 a x b y c z).lookup b = some y := (lk_past h).trans lk_here
theorem f3_3 {a b c : Str} {x y z : V} (h : (c == a) = false) (h' : (c == b) = false) : (f3 a x b y c z).lookup c = some z := (lk_past h).trans ((lk_past h').trans lk_here)
theorem f3_no {a b c k : Str} {x y z : V} (h : ((k == a) || ((k == b) || (k == c))) = false) : (f3 a x b y c z).lookup k = none := by
  rw [Bool.or_eq_false_iff, Bool.or_eq_false_iff] at h
  exact (lk_past h.1).trans ((lk_past h.2.1).trans ((lk_past h.2.2).trans rfl))
/-- a new instance, its fields set -/
theorem made {H : Hp} {x dx C : Addr} {fs : List (Str × V)} (nx : H x = none) (nd : H dx = none) (ne : dx ≠ x) : Same H (upd (upd (upd H dx (.own x)) x (.ins C dx [])) x (.ins C dx fs)) := by
  rw [upd_upd]
  exact Same.step (upd_same_keeps nd) (by rw [upd_ne (Ne.symm ne)]; exact nx)
section
variable {P : Program} {w : World} {K : PySem.W.Frag} {mg : Str → Option Value} {base : Heap} {Cp Cr Co Cs Cw : Addr} {f : Addr} {fd : FuncData}

/-! ### Outlook -/
def spOutInit (C : Addr) : Sp := fun vs H Q _ => ∃ (p dx : Addr) (v1 v2 v3 : V), vs = [.ref p, v1, v2, v3] ∧ H p = some (.ins C dx []) ∧ Q .non (upd H p (.ins C dx (f3 "left" v1 "ways" v2 "bill" v3)))
theorem scOutInit : FnScope ["self", "left", "ways", "bill"] ["self", "left", "ways", "bill"] (defScope sOutInit) := ⟨rfl, rfl, rfl, by decide +kernel, rfl, by decide +kernel, by decide +kernel⟩
theorem ok_outInit (F : Fun K "__init__" "Outlook.__init__" sOutInit f fd) (T : Txt K mg Cp Cr Co Cs Cw) : FnOk P w K mg base CX0 1 f fd ["self", "left", "ways", "bill"] (spOutInit Co) := by
  refine F.ok scOutInit (fun vs H Q E h => ?_) (fun cdv A outer s H vs Q E hr h => ⟨_, pss_cons (ps_fld (pv 0) (pv 1) rfl) (pss_cons (ps_fld (pv 0) (pv 2) rfl) (pss_one (ps_fld (pv 0) (pv 3) rfl))), ?_⟩)
  · obtain ⟨p, dx, v1, v2, v3, rfl, _⟩ := h
    rfl
  · obtain ⟨p, dx, v1, v2, v3, rfl, hp, q⟩ := h
    refine ⟨_, rfl, _, rfl, p, Co, dx, _, rfl, hp, T.co, T.no1, (by show 0 < 1000; decide), ?_⟩
    refine ⟨_, rfl, _, rfl, p, Co, dx, _, rfl, upd_same, T.co, T.no2, (by show 1 < 1000; decide), ?_⟩
    refine ⟨_, rfl, _, rfl, p, Co, dx, _, rfl, upd_same, T.co, T.no3, (by show 2 < 1000; decide), ?_⟩
    rw [upd_upd, upd_upd, put_new, put_past (by decide +kernel), put_new, put_past (by decide +kernel), put_past (by decide +kernel), put_new]
    exact q
/-- the class Outlook may be made -/
structure MkO (P : Program) (w : World) (K : PySem.W.Frag) (mg : Str → Option Value) (base : Heap) (Co f : Addr) (fd : FuncData) : Prop where
  m : Mk K Co f
  F : FnOk P w K mg base CX0 1 f fd ["self", "left", "ways", "bill"] (spOutInit Co)
  b : Binds K fd ["self", "left", "ways", "bill"] []
def spNoWay (C : Addr) : Sp := fun vs H Q _ => vs = [] ∧ ∀ H' a, Same H H' → OutAt C H' a Wp.noWay → Q (.ref a) H'
theorem scNoWay : FnScope [] [] (defScope sNoWay) := ⟨rfl, rfl, rfl, by decide +kernel, rfl, by decide +kernel, by decide +kernel⟩
theorem ok_noWay {fi : Addr} {fdi : FuncData} (F : Fun K "no_way" "no_way" sNoWay f fd) (T : Txt K mg Cp Cr Co Cs Cw) (M : MkO P w K mg base Co fi fdi) : FnOk P w K mg base CX0 3 f fd [] (spNoWay Co) := by
  refine F.ok scNoWay (fun vs H Q E h => ?_) (fun cdv A outer s H vs Q E hr h => ⟨_,
    pss_one (ps_ret (pe_make M.m M.F hr rfl T.go M.b .nil pass0 (pa_cons pe_int (pa_cons pe_int (pa_cons (pe_lst pa_nil) pa_nil))))), ?_⟩)
  · obtain ⟨rfl, _⟩ := h
    rfl
  · obtain ⟨rfl, q⟩ := h
    refine ⟨by show 0 ≤ sizeLine; decide, fun r nr x dx nx nd ne => ⟨x, dx, _, _, _, rfl, upd_same, rfl, ?_⟩⟩
    refine q _ x ((upd_same_keeps nr).trans (made nx nd ne)) ⟨dx, r, upd_same, ?_⟩
    exact made nx nd ne _ _ upd_same

/-! ### joined -/
def spJoined (C : Addr) : Sp := fun vs H Q _ => ∃ (a b : Addr) (o1 o2 : Best), vs = [.ref a, .ref b] ∧ OutAt C H a o1 ∧ OutAt C H b o2 ∧ ∀ H' c, Same H H' → OutAt C H' c (Wp.joined o1 o2) → Q (.ref c) H'
theorem scJoined : FnScope ["found", "later"] ["found", "later"] (defScope sJoined) := ⟨rfl, rfl, rfl, by decide +kernel, rfl, by decide +kernel, by decide +kernel⟩
theorem ok_joined {fi : Addr} {fdi : FuncData} (F : Fun K "joined" "joined" sJoined f fd) (T : Txt K mg Cp Cr Co Cs Cw) (M : MkO P w K mg base Co fi fdi) : FnOk P w K mg base CX0 3 f fd ["found", "later"] (spJoined Co) := by
  refine F.ok scJoined (fun vs H Q E h => ?_) (fun cdv A outer s H vs Q E hr h => ⟨_,
    pss_cons (ps_if (pt_cmpR op_eq (pe_fld (pv 1) rfl) pe_int (nomark _)) (pss_one (ps_ret (pv 0))) pss_nil)
    (pss_cons (ps_if (pw_or (pt_cmpR op_eq (pe_fld (pv 0) rfl) pe_int (nomark _)) (pw_or1 (pt_cmpR op_gt (pe_fld (pv 1) rfl) (pe_fld (pv 0) rfl) (nomark _)))).pt (pss_one (ps_ret (pv 1))) pss_nil)
    (pss_cons (ps_if (pt_cmpR op_lt (pe_fld (pv 1) rfl) (pe_fld (pv 0) rfl) (nomark _)) (pss_one (ps_ret (pv 0))) pss_nil)
    (pss_one (ps_ret (pe_make M.m M.F hr rfl T.go M.b .nil pass0 (pa_cons (pe_fld (pv 0) rfl) (pa_cons (pe_op op_add (pe_fld (pv 0) rfl) (pe_fld (pv 1) rfl)) (pa_cons (pe_fld (pv 0) rfl) pa_nil)))))))), ?_⟩)
  · obtain ⟨a, b, o1, o2, rfl, _⟩ := h
    rfl
  · obtain ⟨a, b, o1, o2, rfl, h1, h2, q⟩ := h
    obtain ⟨dx1, r1, e1, l1⟩ := id h1
    obtain ⟨dx2, r2, e2, l2⟩ := id h2
    have w1 : (f3 "left" (V.int o1.left) "ways" (V.int (o1.many : Nat)) "bill" (V.ref r1)).lookup ("ways" : Str) = some (.int (o1.many : Nat)) := f3_2 (by decide +kernel)
    have w2 : (f3 "left" (V.int o2.left) "ways" (V.int (o2.many : Nat)) "bill" (V.ref r2)).lookup ("ways" : Str) = some (.int (o2.many : Nat)) := f3_2 (by decide +kernel)
    have b1 : (f3 "left" (V.int o1.left) "ways" (V.int (o1.many : Nat)) "bill" (V.ref r1)).lookup ("bill" : Str) = some (.ref r1) := f3_3 (by decide +kernel) (by decide +kernel)
    refine ⟨_, rfl, b, Co, dx2, _, _, rfl, e2, T.co, T.no2, w2, rfl, _, rfl, dcase (fun c => ?_) fun c => ?_⟩
    · have c' : o2.many = 0 := vint_inj (b := 0) c
      refine ⟨_, rfl, q H a (Same.refl H) ?_⟩
      unfold Wp.joined
      rw [if_pos c']; exact h1
    have c' : ¬ o2.many = 0 := fun z => c (by rw [z]; rfl)
    refine ⟨_, rfl, a, Co, dx1, _, _, rfl, e1, T.co, T.no2, w1, rfl, _, rfl, dcase (fun d => iteT ⟨_, rfl, q H b (Same.refl H) ?_⟩) fun d => ?_⟩
    · have d' : o1.many = 0 := vint_inj (b := 0) d
      unfold Wp.joined
      rw [if_neg c', if_pos (Or.inl d')]; exact h2
    have d' : ¬ o1.many = 0 := fun z => d (by rw [z]; rfl)
    refine ⟨_, rfl, b, Co, dx2, _, _, rfl, e2, T.co, T.no1, f3_1, _, rfl, a, Co, dx1, _, _, rfl, e1, T.co, T.no1, f3_1, _, _, rfl, rfl, _, rfl, dcase (fun g => ⟨_, rfl, q H b (Same.refl H) ?_⟩) fun g => ?_⟩
    · unfold Wp.joined
      rw [if_neg c', if_pos (Or.inr g)]; exact h2
    refine ⟨_, rfl, b, Co, dx2, _, _, rfl, e2, T.co, T.no1, f3_1, _, rfl, a, Co, dx1, _, _, rfl, e1, T.co, T.no1, f3_1, _, _, rfl, rfl, _, rfl, dcase (fun g' => ⟨_, rfl, q H a (Same.refl H) ?_⟩) fun g' => ?_⟩
    · unfold Wp.joined
      rw [if_neg c', if_neg (fun z => z.elim d' g), if_pos g']; exact h1
    refine ⟨_, rfl, a, Co, dx1, _, _, rfl, e1, T.co, T.no1, f3_1, _, rfl, a, Co, dx1, _, _, rfl, e1, T.co, T.no2, w1, _, rfl, b, Co, dx2, _, _, rfl, e2, T.co, T.no2, w2, _, _, rfl, rfl, ?_⟩
    refine ⟨_, rfl, a, Co, dx1, _, _, rfl, e1, T.co, T.no3, b1, fun x dx nx nd ne => ⟨x, dx, _, _, _, rfl, upd_same, rfl, ?_⟩⟩
    refine q _ x (made nx nd ne) ?_
    unfold Wp.joined
    rw [if_neg c', if_neg (fun z => z.elim d' g), if_neg g']
    refine ⟨dx, r1, ?_, made nx nd ne _ _ l1⟩
    rw [upd_same]
    show some (HO.ins Co dx (f3 "left" (V.int o1.left) "ways" (V.int ((o1.many : Nat) + (o2.many : Nat))) "bill" (V.ref r1))) = some (HO.ins Co dx (f3 "left" (V.int o1.left) "ways" (V.int ((o1.many + o2.many : Nat) : Int)) "bill" (V.ref r1)))
    rw [Int.natCast_add]

/-! ### one_more -/
def spOneMore : Sp := fun vs H Q _ => ∃ (t : Addr) (g : List Nat) (k : Nat), vs = [.ref t, .int k] ∧ H t = some (.tup (iv g)) ∧ k < g.length ∧ g.length ≤ 1000 ∧ ∀ H' a, Same H H' → H' a = some (.tup (iv (Wp.bump g k))) → Q (.ref a) H'
theorem scOneMore : FnScope ["given", "number"] ["given", "number"] (defScope sOneMore) := ⟨rfl, rfl, rfl, by decide +kernel, rfl, by decide +kernel, by decide +kernel⟩
theorem bump_eq {g : List Nat} {k : Nat} (h : k < g.length) : Wp.bump g k = g.take k ++ [g.getD k 0 + 1] ++ g.drop (k + 1) := by
  unfold Wp.bump
  rw [List.set_eq_take_append_cons_drop, if_pos h, List.append_assoc]
  rfl
theorem cut_lo {g : List Nat} {k : Nat} (h : k < g.length) : cutV (iv g) none (some ((k : Nat) : Int)) = iv (g.take k) := by
  unfold cutV
  rw [HT.sIx_none, iv_length, HT.sIx_nat, Nat.min_eq_left (by omega), List.drop_zero, Nat.sub_zero]
  unfold iv
  rw [List.map_take]
theorem cut_hi {g : List Nat} {k : Nat} (h : k < g.length) : cutV (iv g) (some ((k + 1 : Nat) : Int)) none = iv (g.drop (k + 1)) := by
  unfold cutV
  rw [HT.sIx_none, iv_length, HT.sIx_nat, Nat.min_eq_left (by omega)]
  unfold iv
  rw [← List.map_drop]
  rw [List.take_of_length_le (by rw [List.length_map, List.length_drop]; omega)]
theorem ok_oneMore (F : Fun K "one_more" "one_more" sOneMore f fd) (T : Txt K mg Cp Cr Co Cs Cw) : FnOk P w K mg base CX0 1 f fd ["given", "number"] spOneMore := by
  refine F.ok scOneMore (fun vs H Q E h => ?_) (fun cdv A outer s H vs Q E hr h => ⟨_,
    pss_one (ps_ret (pe_op op_catA (pe_op op_catA (pe_slice sl_tup (pv 0) po_none (po_some (pv 1))) (pe_tup (pa_cons (pe_op op_add (pe_ix ix_tup (pv 0) (pv 1) (fun _ _ => rfl)) pe_int) pa_nil))) (pe_slice sl_tup (pv 0) (po_some (pe_op op_add (pv 1) pe_int)) po_none))), ?_⟩)
  · obtain ⟨t, g, k, rfl, _⟩ := h
    rfl
  · obtain ⟨t, g, k, rfl, h1, hk, hz, q⟩ := h
    refine ⟨_, rfl, _, rfl, _, rfl, t, _, rfl, SqT.of h1, ?_, fun p1 n1 => ?_⟩
    · rw [HT.sIx_none, iv_length, HT.sIx_nat]
      omega
    rw [cut_lo hk]
    have k1 : Same H (upd H p1 (.tup (iv (g.take k)))) := upd_same_keeps n1
    refine ⟨_, rfl, _, rfl, t, _, _, _, rfl, rfl, SqT.of (k1 _ _ h1), atI_nat (iv_get (get_some hk)), _, _, rfl, rfl, by show 1 ≤ sizeLine; decide, fun p2 n2 => ?_⟩
    have k2 : Same H (upd (upd H p1 (.tup (iv (g.take k)))) p2 (.tup (iv [g.getD k 0 + 1]))) := Same.step k1 n2
    have rest : ∀ (H3 : Hp) (c : Addr), Same H H3 → H3 c = some (.tup (iv (g.take k ++ [g.getD k 0 + 1]))) → ∃ v, (L2.start [("given" : Str), "number"] [V.ref t, V.int (k : Nat)])[0]? = some (some v) ∧ ∃ v', (L2.start [("given" : Str), "number"] [V.ref t, V.int (k : Nat)])[1]? = some (some v') ∧
      ∃ i j, v' = V.int i ∧ V.int 1 = V.int j ∧ ∃ i', V.int (i + j) = V.int i' ∧ rSlT K v (some i') none H3 fun y H4 => rCatA K (.ref c) y H4 Q := fun H3 c k3 hc => by
      refine ⟨_, rfl, _, rfl, _, _, rfl, rfl, _, rfl, t, _, rfl, SqT.of (k3 _ _ h1), ?_, fun p3 n3 => ?_⟩
      · rw [show ((k : Nat) : Int) + 1 = ((k + 1 : Nat) : Int) from by omega, HT.sIx_nat, iv_length]
        omega
      rw [show ((k : Nat) : Int) + 1 = ((k + 1 : Nat) : Int) from by omega, cut_hi hk]
      have k4 : Same H3 (upd H3 p3 (.tup (iv (g.drop (k + 1))))) := upd_same_keeps n3
      refine ⟨c, p3, _, _, rfl, rfl, SqT.of (k4 _ _ hc), SqT.of upd_same, sz _ ?_, fun e => ?_, fun _ e => ?_, fun _ _ p4 n4 => ?_⟩
      · rw [iv_length, iv_length, List.length_append, List.length_take, List.length_drop]
        show min k g.length + 1 + _ ≤ _
        omega
      · rw [iv_append] at e
        exact absurd e (by simp [iv])
      · refine q _ c (k3.trans k4) ?_
        rw [k4 _ _ hc, bump_eq hk]
        have : g.drop (k + 1) = [] := by
          cases z : g.drop (k + 1) with
          | nil => rfl
          | cons a r => rw [z] at e; exact absurd e (by simp [iv])
        rw [this, List.append_nil]
      · refine q _ p4 ((k3.trans k4).trans (upd_same_keeps n4)) ?_
        rw [upd_same, bump_eq hk, ← iv_append]
    refine ⟨p1, p2, iv (g.take k), iv [g.getD k 0 + 1], rfl, rfl, SqT.of (by rw [upd_ne (ne_of_none upd_same n2)]; exact upd_same), SqT.of upd_same, sz _ ?_, fun e => ?_, fun _ e => ?_, fun _ _ p3 n3 => ?_⟩
    · rw [iv_length, List.length_take]
      show min k g.length + 1 ≤ _
      omega
    · have ek : g.take k = [] := by
        cases z : g.take k with
        | nil => rfl
        | cons a r => rw [z] at e; exact absurd e (by simp [iv])
      refine rest _ p2 k2 ?_
      rw [ek]
      exact upd_same
    · exact absurd e (by simp [iv])
    · refine rest _ p3 (Same.step k2 n3) ?_
      rw [upd_same, ← iv_append]

/-! ### at_the_end -/
def SearchF (C : Addr) (H : Hp) (s lc lp d : Addr) : Prop := ∃ dx, H s = some (.ins C dx (f3 "come" (.ref lc) "plays" (.ref lp) "known" (.ref d)))
def spAtEnd (C Cp Co : Addr) : Sp := fun vs H Q _ => ∃ (s lc lp d x t : Addr) (ps : List Play) (b : Nat) (g : List Nat), vs = [.ref s, .int b, .ref t] ∧ SearchF C H s lc lp d ∧ PlaysAt Cp H lp ps x ∧ H t = some (.tup (iv g)) ∧
  b < ps.length ∧ g.length = ps.length ∧ ∀ H' a, Same H H' → OutAt Co H' a (Wp.atEnd ps b g) → Q (.ref a) H'
theorem scAtEnd : FnScope ["self", "before", "given", "number", "play"] ["self", "before", "given"] (defScope sAtEnd) := ⟨rfl, rfl, rfl, by decide +kernel, rfl, by decide +kernel, by decide +kernel⟩
theorem ok_atEnd {fi f1 f2' : Addr} {fdi fd1 fd2 : FuncData} (F : Fun K "at_the_end" "Search.at_the_end" sAtEnd f fd) (T : Txt K mg Cp Cr Co Cs Cw) (M : MkO P w K mg base Co fi fdi)
    (g1 : mg "no_way" = some (.ref f1)) (k1 : PySem.W.keepIn K (.ref f1) = true) (b1 : Binds K fd1 [] []) (F1 : FnOk P w K mg base CX0 3 f1 fd1 [] (spNoWay Co))
    (g2 : mg "change_cost" = some (.ref f2')) (k2 : PySem.W.keepIn K (.ref f2') = true) (b2 : Binds K fd2 ["plays", "before", "number"] []) (F2 : FnOk P w K mg base CX0 1 f2' fd2 ["plays", "before", "number"] (spChange Cp)) :
    FnOk P w K mg base CX0 4 f fd ["self", "before", "given"] (spAtEnd Cs Cp Co) := by
  refine F.ok scAtEnd (fun vs H Q E h => ?_) (fun cdv A outer s H vs Q E hr h => ⟨_,
    pss_cons (ps_for PassesOwn.never rfl (pi_enum (by rfl) T.zenum (pa_cons (pe_fld (pv 0) rfl) pa_nil)) (pg_tup rfl (pgs_cons (pg_name (i := 3) scAtEnd.nd rfl (.inl rfl)) (pgs_cons (pg_name (i := 4) scAtEnd.nd rfl (.inl rfl)) pgs_nil)))
      (pss_one (ps_if (pt_cmpR op_lt (pe_ix ix_tup (pv 2) (pv 3) (fun _ _ => rfl)) (pe_fld (pv 4) rfl) (nomark _)) (pss_one (ps_ret (pe_call0 F1 hr rfl g1 k1 b1 .nil pass0))) pss_nil)))
    (pss_one (ps_ret (pe_make M.m M.F (hr.mono (by decide)) rfl T.go M.b .nil pass0 (pa_cons (pe_un un_neg (pe_call F2 (hr.mono (by decide)) rfl g2 k2 b2 .nil pass0 (pa_cons (pe_fld (pv 0) rfl) (pa_cons (pv 1) (pa_cons pe_int pa_nil))))) (pa_cons pe_int (pa_cons (pe_lst pa_nil) pa_nil)))))), ?_⟩)
  · obtain ⟨s, lc, lp, d, x, t, ps, b, g, rfl, _⟩ := h
    rfl
  · obtain ⟨s, lc, lp, d, x, t, ps, b, g, rfl, ⟨dx, hs⟩, h1, ht, hb, hg, q⟩ := h
    obtain ⟨as, e0, el, e1⟩ := h1.at_
    have pl2 : (f3 "come" (V.ref lc) "plays" (V.ref lp) "known" (V.ref d)).lookup ("plays" : Str) = some (.ref lp) := f3_2 (by decide +kernel)
    refine ⟨_, rfl, s, Cs, dx, _, _, rfl, hs, T.cs, T.ns2, pl2, lp, _, rfl, SqL.of e0, for_enum (xs := as.map V.ref) (fun i σ H' => Same H H' ∧ (∃ v3 v4, σ = [some (.ref s), some (.int (b : Nat)), some (.ref t), v3, v4]) ∧ ∀ j, j < i → ¬ g.getD j 0 < (Wp.pl ps j).least)
      ⟨Same.refl H, ⟨none, none, rfl⟩, fun j hj => absurd hj (Nat.not_lt_zero j)⟩ (fun i σ H' ⟨k, _⟩ => SqL.of (k _ _ e0)) ?_ ?_⟩
    · rintro i y Tt σ H' hy ⟨k, ⟨v3, v4, rfl⟩, hj⟩ nT
      have hil : i < ps.length := by
        have := (List.getElem?_eq_some_iff.mp hy).1
        rw [List.length_map] at this; omega
      obtain ⟨a, r, ia, pa, _⟩ := e1 i hil
      rw [ia] at hy
      cases hy
      have k' : Same H (upd H' Tt (.tup [.int (i : Nat), .ref a])) := Same.step k nT
      obtain ⟨dxp, pa1, _⟩ := pa.keeps fun b o e _ => k' b o e
      refine ⟨Tt, _, rfl, SqT.of upd_same, rfl, _, _, rfl, _, _, rfl, rfl, ?_⟩
      refine ⟨_, rfl, _, rfl, t, _, _, _, rfl, rfl, SqT.of (k' _ _ ht), atI_nat (iv_get (get_some (by omega))), _, rfl, a, Cp, dxp, _, _, rfl, pa1, T.cp, T.np4, pF_4, _, _, rfl, rfl, _, rfl, dcase (fun c => ?_) fun c => ?_⟩
      · refine ⟨rfl, fun H2 c2 k2 o2 => q _ c2 (k'.trans k2) ?_⟩
        have e : Wp.lacks ps g = true := List.any_eq_true.mpr ⟨i, List.mem_range.mpr hil, decide_eq_true (by omega)⟩
        unfold Wp.atEnd
        rw [if_pos e]; exact o2
      · refine ⟨k', ⟨_, _, rfl⟩, fun j hj' => ?_⟩
        by_cases e : j = i
        · subst e; omega
        · exact hj j (by omega)
    · rintro σ H' ⟨k, ⟨v3, v4, rfl⟩, hj⟩
      rw [List.length_map, el] at hj
      refine ⟨_, rfl, s, Cs, dx, _, _, rfl, k _ _ hs, T.cs, T.ns2, pl2, _, rfl, lp, x, ps, b, 0, rfl, h1.same k, hb, by omega, _, rfl, by show 0 ≤ sizeLine; decide, fun r nr x2 dx2 nx nd ne => ⟨x2, dx2, _, _, _, rfl, upd_same, rfl, ?_⟩⟩
      refine q _ x2 ((Same.step k nr).trans (made nx nd ne)) ?_
      have e : ¬ Wp.lacks ps g = true := fun z => by
        obtain ⟨i, hi, hd⟩ := List.any_eq_true.mp z
        exact hj i (List.mem_range.mp hi) (of_decide_eq_true hd)
      unfold Wp.atEnd
      rw [if_neg e]
      refine ⟨dx2, r, upd_same, made nx nd ne _ _ upd_same⟩
end
end Wd

/-! The search itself: what is kept of it, and the bounds. -/
namespace Wd
open PySem PySem.Spec PyProof.Rows L2 Wr Wh
open Uw05 (Best)
theorem hu64 {A : Around} {k : Nat} (hr : Room k A) : A.units + 64 < cLine := by
  have := hr.un
  omega
/-- a def that may be called by its name -/
structure Cb (K : PySem.W.Frag) (mg : Str → Option Value) (x : Str) (f : Addr) (fd : FuncData) (ps : List Str) : Prop where
  g : mg x = some (.ref f)
  k : PySem.W.keepIn K (.ref f) = true
  b : Binds K fd ps []
structure Mb (K : PySem.W.Frag) (C : Addr) (x : Str) (f : Addr) (fd : FuncData) (ps : List Str) : Prop where
  m : Meth K C x f
  b : Binds K fd ps []

/-- all but d is kept -/
def Fr (d : Addr) (H H' : Hp) : Prop := ∀ b o, H b = some o → b ≠ d → H' b = some o
theorem Fr.of {d : Addr} {H H' : Hp} (k : Same H H') : Fr d H H' := fun b o e _ => k b o e
theorem Fr.trans {d : Addr} {H H1 H2 : Hp} (a : Fr d H H1) (b : Fr d H1 H2) : Fr d H H2 := fun c o e n => b c o (a c o e n) n
theorem Fr.refl {d : Addr} {H : Hp} : Fr d H H := fun _ _ e _ => e

def Sem (Co : Addr) (H : Hp) (come : List Nat) (ps : List Play) (xs : Ents) : Prop :=
  ∀ x ∈ xs, ∃ (n m b : Nat) (g : List Nat) (p : Addr), x.1 = nk n b g ∧ n + m = come.length ∧ b < ps.length ∧ g.length = ps.length ∧ (∀ k ∈ g, k ≤ n) ∧ x.2.2 = Value.ref p ∧ OutAt Co H p (Wp.look come ps m n b g)
structure SearchAt (P : Program) (w : World) (Cs Cp Co : Addr) (H : Hp) (s : Addr) (come : List Nat) (ps : List Play) (lc lp d : Addr) : Prop where
  f : SearchF Cs H s lc lp d
  c : H lc = some (.lst (iv come))
  p : PlaysAt Cp H lp ps lc
  kn : ∃ xs, KnAt P w H d xs ∧ Sem Co H come ps xs
structure Good (come : List Nat) (ps : List Play) : Prop where
  c6 : come.length ≤ 6
  ps : Plays ps
section
variable {P : Program} {w : World} {Cs Cp Co : Addr} {H H' : Hp} {s lc lp d : Addr} {come : List Nat} {ps : List Play}
theorem SearchAt.same (S : SearchAt P w Cs Cp Co H s come ps lc lp d) (k : Same H H') : SearchAt P w Cs Cp Co H' s come ps lc lp d := by
  obtain ⟨⟨dx, hf⟩, hc, hp, xs, kn, sem⟩ := S
  exact ⟨⟨dx, k _ _ hf⟩, k _ _ hc, hp.same k, xs, kn.keeps (k _ _ kn.at_) fun c ys q => k _ _ q, fun x hx => let ⟨n, m, b, g, p, h1, h2, h3, h4, h5, h6, h7⟩ := sem x hx; ⟨n, m, b, g, p, h1, h2, h3, h4, h5, h6, h7.same k⟩⟩
/-- what is no dict stands -/
theorem SearchAt.ne (S : SearchAt P w Cs Cp Co H s come ps lc lp d) {b : Addr} {o : HO} (h : H b = some o) (n : ∀ φ, o ≠ .ext φ) : b ≠ d := by
  obtain ⟨xs, kn, _⟩ := S.kn
  exact ne_of h kn.at_ (n _)
theorem SearchAt.lst (S : SearchAt P w Cs Cp Co H s come ps lc lp d) (fr : Fr d H H') {b : Addr} {ys : List V} (h : H b = some (.lst ys)) : H' b = some (.lst ys) := fr _ _ h (S.ne h fun _ z => nomatch z)
theorem SearchAt.tup (S : SearchAt P w Cs Cp Co H s come ps lc lp d) (fr : Fr d H H') {b : Addr} {ys : List V} (h : H b = some (.tup ys)) : H' b = some (.tup ys) := fr _ _ h (S.ne h fun _ z => nomatch z)
theorem SearchAt.ins (S : SearchAt P w Cs Cp Co H s come ps lc lp d) (fr : Fr d H H') {b C dx : Addr} {fs : List (Str × V)} (h : H b = some (.ins C dx fs)) : H' b = some (.ins C dx fs) := fr _ _ h (S.ne h fun _ z => nomatch z)
theorem SearchAt.out (S : SearchAt P w Cs Cp Co H s come ps lc lp d) (fr : Fr d H H') {a : Addr} {o : Best} (h : OutAt Co H a o) : OutAt Co H' a o :=
  let ⟨dx, r, h1, h2⟩ := h
  ⟨dx, r, S.ins fr h1, S.lst fr h2⟩
theorem SearchAt.plays (S : SearchAt P w Cs Cp Co H s come ps lc lp d) (fr : Fr d H H') {C l x : Addr} {qs : List Play} (h : PlaysAt C H l qs x) : PlaysAt C H' l qs x :=
  let ⟨as, h1, h2, h3⟩ := h
  ⟨as, S.lst fr h1, h2, fun i b p e1 e2 => let ⟨r, ⟨dx, q1, q2⟩, n⟩ := h3 i b p e1 e2; ⟨r, ⟨dx, S.ins fr q1, S.lst fr q2⟩, n⟩⟩
/-- an entry is put -/
theorem SearchAt.put (S : SearchAt P w Cs Cp Co H s come ps lc lp d) {xs : Ents} (kn : KnAt P w H d xs) (sem : Sem Co H come ps xs) {n m b : Nat} {g : List Nat} {ka p : Addr} (ke : KeyAt H ka n b g) (nm : n + m = come.length) (hb : b < ps.length)
    (hg : g.length = ps.length) (hk : ∀ k ∈ g, k ≤ n) (ho : OutAt Co H p (Wp.look come ps m n b g)) :
    KnAt P w (upd H d (KnO P w d (storedH xs (nk n b g) ka (.ref p)))) d (storedH xs (nk n b g) ka (.ref p)) ∧ Sem Co (upd H d (KnO P w d (storedH xs (nk n b g) ka (.ref p)))) come ps (storedH xs (nk n b g) ka (.ref p)) ∧
      SearchAt P w Cs Cp Co (upd H d (KnO P w d (storedH xs (nk n b g) ka (.ref p)))) s come ps lc lp d := by
  have fr : Fr d H (upd H d (KnO P w d (storedH xs (nk n b g) ka (.ref p)))) := fun b o e z => by rw [upd_ne z]; exact e
  have kn' := kn.put (u := .ref p) rfl ke
  have sem' : Sem Co (upd H d (KnO P w d (storedH xs (nk n b g) ka (.ref p)))) come ps (storedH xs (nk n b g) ka (.ref p)) := fun x hx => by
    have new : ∀ c : Addr, ∃ (n' m' b' : Nat) (g' : List Nat) (p' : Addr), (nk n b g, c, Value.ref p).1 = nk n' b' g' ∧ n' + m' = come.length ∧ b' < ps.length ∧ g'.length = ps.length ∧ (∀ k ∈ g', k ≤ n') ∧ (nk n b g, c, Value.ref p).2.2 = Value.ref p' ∧
        OutAt Co (upd H d (KnO P w d (storedH xs (nk n b g) ka (.ref p)))) p' (Wp.look come ps m' n' b' g') := fun c => ⟨n, m, b, g, p, rfl, nm, hb, hg, hk, rfl, S.out fr ho⟩
    rcases mem_stored hx with hx | rfl | ⟨y, hy, e1, rfl⟩
    · obtain ⟨n', m', b', g', p', h1, h2, h3, h4, h5, h6, h7⟩ := sem x hx
      exact ⟨n', m', b', g', p', h1, h2, h3, h4, h5, h6, S.out fr h7⟩
    · exact new ka
    · exact new y.2.1
  exact ⟨kn', sem', ⟨let ⟨dx, hf⟩ := S.f; ⟨dx, S.ins fr hf⟩, S.lst fr S.c, S.plays fr S.p, _, kn', sem'⟩⟩
end

/-! ### how many entries there are at most -/
theorem nodup_le {α : Type} [DecidableEq α] : ∀ (l m : List α), l.Nodup → (∀ x ∈ l, x ∈ m) → l.length ≤ m.length
  | [], _, _, _ => Nat.zero_le _
  | x :: l, m, hn, hs => by
    rw [List.nodup_cons] at hn
    have hx : x ∈ m := hs x (by simp)
    have ih := nodup_le l (m.erase x) hn.2 fun y hy => (List.mem_erase_of_ne (fun e => hn.1 (by rw [← e]; exact hy))).mpr (hs y (List.mem_cons_of_mem _ hy))
    rw [List.length_erase_of_mem hx] at ih
    have : 0 < m.length := List.length_pos_of_mem hx
    rw [List.length_cons]
    omega
theorem flat_len {α β : Type} {f : α → List β} {c : Nat} : ∀ l : List α, (∀ x ∈ l, (f x).length = c) → (l.flatMap f).length = l.length * c
  | [], _ => by simp
  | x :: l, h => by
    rw [List.flatMap_cons, List.length_append, h x (by simp), flat_len l fun y hy => h y (List.mem_cons_of_mem _ hy), List.length_cons, Nat.succ_mul]
    omega
theorem bills_len (K : Nat) : ∀ n : Nat, (Uw05.bills K n).length = (K + 1) ^ n
  | 0 => rfl
  | n + 1 => by
    show ((List.range (K + 1)).flatMap fun x => (Uw05.bills K n).map fun r => x :: r).length = _
    rw [flat_len (c := (K + 1) ^ n) _ fun x _ => by rw [List.length_map, bills_len K n], List.length_range, Nat.pow_succ, Nat.mul_comm]
def allKeys (L : Nat) : List NestedKey := (List.range 7).flatMap fun n => (List.range 5).flatMap fun b => (Uw05.bills 6 L).map fun g => nk n b g
theorem allKeys_len {L : Nat} (h : L ≤ 5) : (allKeys L).length ≤ 588245 := by
  have e : (allKeys L).length = 7 * (5 * 7 ^ L) := by
    unfold allKeys
    rw [flat_len (c := 5 * 7 ^ L) _ fun n _ => by
      rw [flat_len (c := 7 ^ L) _ fun b _ => by rw [List.length_map, bills_len], List.length_range], List.length_range]
  have : 7 ^ L ≤ 7 ^ 5 := Nat.pow_le_pow_right (by decide) h
  have e5 : (7 : Nat) ^ 5 = 16807 := by decide
  omega
theorem ents_len {Co : Addr} {H : Hp} {come : List Nat} {ps : List Play} {xs : Ents} (G : Good come ps) (nd : (xs.map (·.1)).Nodup) (sem : Sem Co H come ps xs) : xs.length ≤ 588245 := by
  have h := nodup_le (xs.map (·.1)) (allKeys ps.length) nd fun y hy => by
    obtain ⟨x, hx, rfl⟩ := List.mem_map.mp hy
    obtain ⟨n, m, b, g, p, h1, h2, h3, h4, h5, _⟩ := sem x hx
    have c6 := G.c6
    have f5 := G.ps.few
    rw [h1]
    refine List.mem_flatMap.mpr ⟨n, List.mem_range.mpr (by omega), List.mem_flatMap.mpr ⟨b, List.mem_range.mpr (by omega), List.mem_map.mpr ⟨g, Wp.mem_bills.mpr ⟨h4, fun k hk => ?_⟩, rfl⟩⟩⟩
    have := h5 k hk
    omega
  rw [List.length_map] at h
  exact Nat.le_trans h (allKeys_len G.ps.few)

/-! ### how long a bill is at most -/
theorem joined_len {o1 o2 : Best} {n : Nat} (h1 : o1.bill.length ≤ n) (h2 : o2.bill.length ≤ n) : (Wp.joined o1 o2).bill.length ≤ n := by
  unfold Wp.joined
  repeat' split
  all_goals first | exact h1 | exact h2
theorem fold_len {n : Nat} : ∀ (l : List Best) (o : Best), o.bill.length ≤ n → (∀ x ∈ l, x.bill.length ≤ n) → (l.foldl Wp.joined o).bill.length ≤ n
  | [], _, h, _ => h
  | x :: l, o, h, hl => fold_len l (Wp.joined o x) (joined_len h (hl x (by simp))) fun y hy => hl y (List.mem_cons_of_mem _ hy)
theorem look_len (come : List Nat) (ps : List Play) : ∀ (m n b : Nat) (g : List Nat), (Wp.look come ps m n b g).bill.length ≤ m
  | 0, n, b, g => by
    show (Wp.atEnd ps b g).bill.length ≤ 0
    unfold Wp.atEnd
    split <;> exact Nat.le_refl _
  | m + 1, n, b, g => by
    refine fold_len _ _ (Nat.zero_le _) fun x hx => ?_
    obtain ⟨k, _, rfl⟩ := List.mem_map.mp hx
    unfold Wp.choosing
    repeat' split
    · exact Nat.zero_le _
    · exact Nat.zero_le _
    · exact Nat.succ_le_succ (look_len come ps m (n + 1) k (Wp.bump g k))
theorem bump_le {g : List Nat} {k n : Nat} (h : ∀ x ∈ g, x ≤ n) : ∀ x ∈ Wp.bump g k, x ≤ n + 1 := fun x hx => by
  unfold Wp.bump at hx
  rcases List.mem_or_eq_of_mem_set hx with hx | rfl
  · have := h x hx; omega
  · rw [List.getD_eq_getElem?_getD]
    cases e : g[k]? with
    | none => show 0 + 1 ≤ _; omega
    | some y =>
      have := h y (List.mem_of_getElem? e)
      show y + 1 ≤ _
      omega
end Wd

/-! The search itself: choosing, looked_up, onward, each against the other, by how many nights are left. -/
namespace Wd
open PySem PySem.Spec PyProof.Rows L2 Wr Wh
open Uw05 (Best)
section
variable {P : Program} {w : World} {K : PySem.W.Frag} {mg : Str → Option Value} {base : Heap} {Cp Cr Co Cs Cw : Addr} {f : Addr} {fd : FuncData}

/-- onward and looked_up, m nights left -/
def spOn (P : Program) (w : World) (Cs Cp Co : Addr) (m : Nat) : Sp := fun vs H Q _ => ∃ (s lc lp d t : Addr) (come : List Nat) (ps : List Play) (n b : Nat) (g : List Nat), vs = [.ref s, .int n, .int b, .ref t] ∧ SearchAt P w Cs Cp Co H s come ps lc lp d ∧ Good come ps ∧ n + m = come.length ∧
  b < ps.length ∧ H t = some (.tup (iv g)) ∧ g.length = ps.length ∧ (∀ x ∈ g, x ≤ n) ∧
  ∀ H' a, Fr d H H' → SearchAt P w Cs Cp Co H' s come ps lc lp d → OutAt Co H' a (Wp.look come ps m n b g) → Q (.ref a) H'
/-- choosing, m nights left behind this one -/
def spCh (P : Program) (w : World) (Cs Cp Co : Addr) (m : Nat) : Sp := fun vs H Q _ => ∃ (s lc lp d t : Addr) (come : List Nat) (ps : List Play) (k n b : Nat) (g : List Nat), vs = [.ref s, .int k, .int n, .int b, .ref t] ∧ SearchAt P w Cs Cp Co H s come ps lc lp d ∧ Good come ps ∧ n + 1 + m = come.length ∧
  k < ps.length ∧ b < ps.length ∧ H t = some (.tup (iv g)) ∧ g.length = ps.length ∧ (∀ x ∈ g, x ≤ n) ∧
  ∀ H' a, Fr d H H' → SearchAt P w Cs Cp Co H' s come ps lc lp d → OutAt Co H' a (Wp.choosing come ps (Wp.look come ps m (n + 1) k (Wp.bump g k)) k n b g) → Q (.ref a) H'
/-- what the search calls -/
structure Helps (P : Program) (w : World) (K : PySem.W.Frag) (mg : Str → Option Value) (base : Heap) (Cp Co Cs fO fN fC fM fT fJ fE : Addr) (dO dN dC dM dT dJ dE : FuncData) : Prop where
  out : MkO P w K mg base Co fO dO
  noWay : Cb K mg "no_way" fN dN []
  noWayF : FnOk P w K mg base CX0 3 fN dN [] (spNoWay Co)
  change : Cb K mg "change_cost" fC dC ["plays", "before", "number"]
  changeF : FnOk P w K mg base CX0 1 fC dC ["plays", "before", "number"] (spChange Cp)
  more : Cb K mg "one_more" fM dM ["given", "number"]
  moreF : FnOk P w K mg base CX0 1 fM dM ["given", "number"] spOneMore
  takes : Mb K Cp "takes" fT dT ["self", "times", "come"]
  takesF : FnOk P w K mg base CX0 1 fT dT ["self", "times", "come"] (spTakes Cp)
  joined : Cb K mg "joined" fJ dJ ["found", "later"]
  joinedF : FnOk P w K mg base CX0 3 fJ dJ ["found", "later"] (spJoined Co)
  atEnd : Mb K Cs "at_the_end" fE dE ["self", "before", "given"]
  atEndF : FnOk P w K mg base CX0 4 fE dE ["self", "before", "given"] (spAtEnd Cs Cp Co)
theorem sF1 {lc lp d : Addr} : (f3 "come" (V.ref lc) "plays" (V.ref lp) "known" (V.ref d)).lookup ("come" : Str) = some (.ref lc) := f3_1
theorem sF2 {lc lp d : Addr} : (f3 "come" (V.ref lc) "plays" (V.ref lp) "known" (V.ref d)).lookup ("plays" : Str) = some (.ref lp) := f3_2 (by decide +kernel)
theorem sF3 {lc lp d : Addr} : (f3 "come" (V.ref lc) "plays" (V.ref lp) "known" (V.ref d)).lookup ("known" : Str) = some (.ref d) := f3_3 (by decide +kernel) (by decide +kernel)
theorem oF1 {a b c : V} : (f3 "left" a "ways" b "bill" c).lookup ("left" : Str) = some a := f3_1
theorem oF2 {a b c : V} : (f3 "left" a "ways" b "bill" c).lookup ("ways" : Str) = some b := f3_2 (by decide +kernel)
theorem oF3 {a b c : V} : (f3 "left" a "ways" b "bill" c).lookup ("bill" : Str) = some c := f3_3 (by decide +kernel) (by decide +kernel)
variable {fO fN fC fM fT fJ fE : Addr} {dO dN dC dM dT dJ dE : FuncData}

theorem scCh : FnScope ["self", "number", "night", "before", "given", "play", "rest", "gain"] ["self", "number", "night", "before", "given"] (defScope sChoosing) := ⟨rfl, rfl, rfl, by decide +kernel, rfl, by decide +kernel, by decide +kernel⟩
theorem ok_choosing {k m : Nat} {f1 : Addr} {d1 : FuncData} (hk : 3 ≤ k) (F : Fun K "choosing" "Search.choosing" sChoosing f fd) (T : Txt K mg Cp Cr Co Cs Cw) (L : Helps P w K mg base Cp Co Cs fO fN fC fM fT fJ fE dO dN dC dM dT dJ dE)
    (B1 : Mb K Cs "onward" f1 d1 ["self", "night", "before", "given"]) (F1 : FnOk P w K mg base CX0 k f1 d1 ["self", "night", "before", "given"] (spOn P w Cs Cp Co m)) :
    FnOk P w K mg base CX0 (k + 1) f fd ["self", "number", "night", "before", "given"] (spCh P w Cs Cp Co m) := by
  refine F.ok scCh (fun vs H Q E h => ?_) (fun cdv A outer s H vs Q E hr h => ⟨_,
    have h3 : Room 3 _ := hr.mono hk
    have h2 : Room 2 _ := h3.mono (by decide)
    have h1 : Room 1 _ := h3.mono (by decide)
    pss_cons (ps_set (i := 5) scCh.nd rfl (.inl rfl) (pe_ix ix_list (pe_fld (pv 0) rfl) (pv 1) (fun _ _ => rfl)))
    (pss_cons (ps_if (pw_and (pt_cmpR op_eq (pv 1) (pv 3) (nomark _)) (pw_and1 (pt_not (pt_truth (pe_fld (pv 5) rfl) (fun _ => rfl))))).pt (pss_one (ps_ret (pe_call0 L.noWayF h3 rfl L.noWay.g L.noWay.k L.noWay.b .nil pass0))) pss_nil)
    (pss_cons (ps_if (pt_cmpR op_eq (pe_ix ix_tup (pv 4) (pv 1) (fun _ _ => rfl)) (pe_fld (pv 5) rfl) (nomark _)) (pss_one (ps_ret (pe_call0 L.noWayF h3 rfl L.noWay.g L.noWay.k L.noWay.b .nil pass0))) pss_nil)
    (pss_cons (ps_set (i := 6) scCh.nd rfl (.inl rfl) (pe_meth (pv 0) T.cs B1.m F1 hr B1.b .nil pass0 (pa_cons (pe_op op_add (pv 2) pe_int) (pa_cons (pv 1) (pa_cons (pe_call L.moreF h1 rfl L.more.g L.more.k L.more.b .nil pass0 (pa_cons (pv 4) (pa_cons (pv 1) pa_nil))) pa_nil)))))
    (pss_cons (ps_set (i := 7) scCh.nd rfl (.inl rfl) (pe_op op_sub (pe_meth (pv 5) T.cp L.takes.m L.takesF h1 L.takes.b .nil pass0 (pa_cons (pe_ix ix_tup (pv 4) (pv 1) (fun _ _ => rfl)) (pa_cons (pe_ix ix_list (pe_fld (pv 0) rfl) (pv 2) (fun _ _ => rfl)) pa_nil)))
      (pe_call L.changeF h1 rfl L.change.g L.change.k L.change.b .nil pass0 (pa_cons (pe_fld (pv 0) rfl) (pa_cons (pv 3) (pa_cons (pv 1) pa_nil))))))
    (pss_one (ps_ret (pe_make L.out.m L.out.F h2 rfl T.go L.out.b .nil pass0 (pa_cons (pe_op op_add (pv 7) (pe_fld (pv 6) rfl)) (pa_cons (pe_fld (pv 6) rfl) (pa_cons (pe_op op_cat (pe_lst (pa_cons (pv 1) pa_nil)) (pe_fld (pv 6) rfl)) pa_nil)))))))))), ?_⟩)
  · obtain ⟨s, lc, lp, d, t, come, ps, k, n, b, g, rfl, _⟩ := h
    rfl
  · obtain ⟨s, lc, lp, d, t, come, ps, k, n, b, g, rfl, S, G, nm, hkl, hb, ht, hg, hgn, q⟩ := h
    obtain ⟨dx, hs⟩ := S.f
    obtain ⟨as, e0, el, e1⟩ := S.p.at_
    obtain ⟨a, r, ia, pa, _⟩ := e1 k hkl
    obtain ⟨dp, pa1, _⟩ := id pa
    have hgk : (iv g)[k]? = some (V.int (g.getD k 0 : Nat)) := iv_get (get_some (by omega))
    refine ⟨_, rfl, s, Cs, dx, _, _, rfl, hs, T.cs, T.ns2, sF2, _, rfl, lp, _, _, _, rfl, rfl, SqL.of e0, atI_nat ia, ?_⟩
    have no : ∀ H', Same H H' → Wp.choosing come ps (Wp.look come ps m (n + 1) k (Wp.bump g k)) k n b g = Wp.noWay → ∀ a, OutAt Co H' a Wp.noWay → Q (.ref a) H' := fun H' k' e a ho => q H' a (Fr.of k') (S.same k') (by rw [e]; exact ho)
    have rest : ¬ (k = b ∧ (Wp.pl ps k).runs = false) → tSeq (tIfS (tTest (tOp rEq (tOp (rIxT K) (tVar 4) (tVar 1)) (tFld K (tVar 5) "most"))) (tRet (tCall (spNoWay Co) [] E0 tNil)) tNext)
        (tSeq (tAsg (tMeth Cs "onward" (spOn P w Cs Cp Co m) [] E0 (tVar 0) (tCons (tOp (rI0 fun i j => .int (i + j)) (tVar 2) (tC (.int 1))) (tCons (tVar 1) (tCons (tCall spOneMore [] E0 (tCons (tVar 4) (tCons (tVar 1) tNil))) tNil)))) (gName 6))
        (tSeq (tAsg (tOp (rI0 fun i j => .int (i - j)) (tMeth Cp "takes" (spTakes Cp) [] E0 (tVar 5) (tCons (tOp (rIxT K) (tVar 4) (tVar 1)) (tCons (tOp (rIxL K) (tFld K (tVar 0) "come") (tVar 2)) tNil))) (tCall (spChange Cp) [] E0 (tCons (tFld K (tVar 0) "plays") (tCons (tVar 3) (tCons (tVar 1) tNil))))) (gName 7))
        (tRet (tMake Co (spOutInit Co) [] E0 (tCons (tOp (rI0 fun i j => .int (i + j)) (tVar 7) (tFld K (tVar 6) "left")) (tCons (tFld K (tVar 6) "ways") (tCons (tOp rCat (tLst (tCons (tVar 1) tNil)) (tFld K (tVar 6) "bill")) tNil)))))))
        { nx := fun _ H' => Q .non H', rt := Q } [some (.ref s), some (.int (k : Nat)), some (.int (n : Nat)), some (.int (b : Nat)), some (.ref t), some (.ref a), none, none] H := fun nrest => by
      refine ⟨_, rfl, _, rfl, t, _, _, _, rfl, rfl, SqT.of ht, atI_nat hgk, _, rfl, a, Cp, dp, _, _, rfl, pa1, T.cp, T.np5, pF_5, rfl, _, rfl, dcase (fun c => ⟨rfl, fun H' a' k' ho => no H' k' ?_ a' ho⟩) fun c => ?_⟩
      · unfold Wp.choosing
        rw [if_neg nrest, if_pos (vint_inj c)]
      have nmost : ¬ g.getD k 0 = (Wp.pl ps k).most := fun z => c (by rw [z])
      refine ⟨_, rfl, s, dx, _, rfl, hs, f3_no (by decide +kernel), ?_⟩
      refine ⟨_, rfl, _, _, rfl, rfl, _, rfl, _, rfl, _, rfl, t, g, k, rfl, ht, by omega, by have := G.ps.few; omega, fun H1 c1 k1 hc1 => ?_⟩
      have S1 := S.same k1
      refine ⟨s, lc, lp, d, c1, come, ps, n + 1, k, Wp.bump g k, by rw [Int.natCast_add]; rfl, S1, G, nm, hkl, hc1, by rw [Wp.bump_length]; exact hg, bump_le hgn, fun H2 o fr2 S2 ho => ?_⟩
      have fr : Fr d H H2 := (Fr.of k1).trans fr2
      obtain ⟨as2, e02, el2, e12⟩ := S2.p.at_
      obtain ⟨dx2, hs2⟩ := S2.f
      have ht2 := S.tup fr ht
      have pa2 : PlayAt Cp H2 a (Wp.pl ps k) r := let ⟨dp, h1, h2⟩ := pa; ⟨dp, S.ins fr h1, S.lst fr h2⟩
      obtain ⟨do_, rb, ho1, ho2⟩ := ho
      refine ⟨_, rfl, a, dp, _, rfl, S.ins fr pa1, pF_no (by decide +kernel), _, rfl, _, rfl, t, _, _, _, rfl, rfl, SqT.of ht2, atI_nat hgk, ?_⟩
      refine ⟨_, rfl, s, Cs, dx2, _, _, rfl, hs2, T.cs, T.ns1, sF1, _, rfl, lc, _, _, _, rfl, rfl, SqL.of S2.c, atI_nat (iv_get (get_some (by omega))), ?_⟩
      refine ⟨a, Wp.pl ps k, r, _, _, rfl, pa2, G.ps.b1 k hkl, G.ps.b2 k hkl, ?_⟩
      refine ⟨_, rfl, s, Cs, dx2, _, _, rfl, hs2, T.cs, T.ns2, sF2, _, rfl, _, rfl, lp, lc, ps, b, k, rfl, S2.p, hb, hkl, _, _, rfl, rfl, ?_⟩
      refine ⟨_, rfl, _, rfl, o, Co, do_, _, _, rfl, ho1, T.co, T.no1, oF1, _, _, rfl, rfl, ?_⟩
      refine ⟨_, rfl, o, Co, do_, _, _, rfl, ho1, T.co, T.no2, oF2, ?_⟩
      refine ⟨_, rfl, by show 1 ≤ sizeLine; decide, fun p1 n1 => ?_⟩
      have k3 : Same H2 (upd H2 p1 (.lst [.int (k : Nat)])) := upd_same_keeps n1
      have hbl := look_len come ps m (n + 1) k (Wp.bump g k)
      have c6 := G.c6
      refine ⟨_, rfl, o, Co, do_, _, _, rfl, k3 _ _ ho1, T.co, T.no3, oF3, p1, rb, _, _, rfl, rfl, upd_same, k3 _ _ ho2, sz _ (by rw [iv_length]; show 1 + _ ≤ _; omega), fun p2 n2 => ?_⟩
      have k4 := Same.step (o := .lst ([V.int (k : Nat)] ++ iv (Wp.look come ps m (n + 1) k (Wp.bump g k)).bill)) k3 n2
      intro x dxx nx nd ne
      refine ⟨x, dxx, _, _, _, rfl, upd_same, rfl, ?_⟩
      have k5 := k4.trans (made (fs := f3 "left" (V.int (Wp.gain come ps k n b g + (Wp.look come ps m (n + 1) k (Wp.bump g k)).left)) "ways" (V.int ((Wp.look come ps m (n + 1) k (Wp.bump g k)).many : Nat)) "bill" (V.ref p2)) (C := Co) nx nd ne)
      refine q _ x (fr.trans (Fr.of k5)) (S2.same k5) ?_
      unfold Wp.choosing
      rw [if_neg nrest, if_neg nmost]
      refine ⟨dxx, p2, upd_same, ?_⟩
      exact made nx nd ne _ _ upd_same
    refine ⟨_, rfl, _, rfl, rfl, _, rfl, dcase (fun c => ?_) fun c => iteF (rest fun z => c (by rw [z.1]))⟩
    have ckb : k = b := vint_inj c
    refine ⟨_, rfl, a, Cp, dp, _, _, rfl, pa1, T.cp, T.np3, pF_3, _, rfl, ?_⟩
    rw [yes_ne]
    cases hrn : (Wp.pl ps k).runs with
    | true => exact iteF (rest fun z => by rw [hrn] at z; exact absurd z.2 (by decide))
    | false =>
      refine iteT ⟨rfl, fun H' a' k' ho => no H' k' ?_ a' ho⟩
      unfold Wp.choosing
      rw [if_pos ⟨ckb, hrn⟩]
end
end Wd

/-! The search itself, to its end. -/
namespace Wd
open PySem PySem.Spec PyProof.Rows L2 Wr Wh
open Uw05 (Best)
/-- rooms that onward asks, m nights left -/
def lv : Nat → Nat
  | 0 => 6
  | m + 1 => lv m + 3
theorem lv_ge : ∀ m, 6 ≤ lv m
  | 0 => Nat.le_refl _
  | m + 1 => Nat.le_trans (lv_ge m) (Nat.le_add_right _ _)
theorem lv_le : ∀ m, m ≤ 6 → lv m ≤ 24
  | 0, _ => by decide
  | 1, _ => by decide
  | 2, _ => by decide
  | 3, _ => by decide
  | 4, _ => by decide
  | 5, _ => by decide
  | 6, _ => by decide
  | m + 7, h => by omega
section
variable {P : Program} {w : World} {K : PySem.W.Frag} {mg : Str → Option Value} {base : Heap} {Cp Cr Co Cs Cw : Addr} {f : Addr} {fd : FuncData}
variable {fO fN fC fM fT fJ fE : Addr} {dO dN dC dM dT dJ dE : FuncData}

theorem scLk : FnScope ["self", "night", "before", "given", "found", "number"] ["self", "night", "before", "given"] (defScope sLooked) := ⟨rfl, rfl, rfl, by decide +kernel, rfl, by decide +kernel, by decide +kernel⟩
theorem ok_looked0 (F : Fun K "looked_up" "Search.looked_up" sLooked f fd) (T : Txt K mg Cp Cr Co Cs Cw) (L : Helps P w K mg base Cp Co Cs fO fN fC fM fT fJ fE dO dN dC dM dT dJ dE) :
    FnOk P w K mg base CX0 5 f fd ["self", "night", "before", "given"] (spOn P w Cs Cp Co 0) := by
  refine F.ok scLk (fun vs H Q E h => ?_) (fun cdv A outer s H vs Q E hr h => ⟨_,
    pss_cons (ps_if (pt_cmpR op_eq (pv 1) (pe_callB call_len_seq (by rfl) T.zlen PySem.boot_len (pa_cons (pe_fld (pv 0) rfl) pa_nil)) (nomark _))
      (pss_one (ps_ret (pe_meth (pv 0) T.cs L.atEnd.m L.atEndF hr L.atEnd.b .nil pass0 (pa_cons (pv 2) (pa_cons (pv 3) pa_nil))))) pss_nil)
    pss_never, ?_⟩)
  · obtain ⟨s, lc, lp, d, t, come, ps, n, b, g, rfl, _⟩ := h
    rfl
  · obtain ⟨s, lc, lp, d, t, come, ps, n, b, g, rfl, S, G, nm, hb, ht, hg, hgn, q⟩ := h
    obtain ⟨dx, hs⟩ := S.f
    refine ⟨_, rfl, _, rfl, s, Cs, dx, _, _, rfl, hs, T.cs, T.ns1, sF1, lc, _, rfl, .inl (SqL.of S.c), ?_⟩
    rw [iv_length]
    refine ⟨rfl, _, rfl, dcase (fun c => ?_) fun c => absurd (by rw [show n = come.length from by omega]) c⟩
    refine ⟨_, rfl, s, dx, _, rfl, hs, f3_no (by decide +kernel), _, rfl, _, rfl, s, lc, lp, d, lc, t, ps, b, g, rfl, ⟨dx, hs⟩, S.p, ht, hb, hg, fun H' a k ho => q H' a (Fr.of k) (S.same k) ho⟩
theorem range_fold {α : Type} (F : Nat → Best) (i : Nat) (o : Best) : (((List.range (i + 1)).map F).foldl Wp.joined o) = Wp.joined (((List.range i).map F).foldl Wp.joined o) (F i) := by
  rw [List.range_succ, List.map_append, List.foldl_append]
  rfl
theorem ok_lookedS {k m : Nat} {f1 : Addr} {d1 : FuncData} (hk : 3 ≤ k) (F : Fun K "looked_up" "Search.looked_up" sLooked f fd) (T : Txt K mg Cp Cr Co Cs Cw) (L : Helps P w K mg base Cp Co Cs fO fN fC fM fT fJ fE dO dN dC dM dT dJ dE)
    (B1 : Mb K Cs "choosing" f1 d1 ["self", "number", "night", "before", "given"]) (F1 : FnOk P w K mg base CX0 k f1 d1 ["self", "number", "night", "before", "given"] (spCh P w Cs Cp Co m)) (hk4 : 4 ≤ k) :
    FnOk P w K mg base CX0 (k + 1) f fd ["self", "night", "before", "given"] (spOn P w Cs Cp Co (m + 1)) := by
  refine F.ok scLk (fun vs H Q E h => ?_) (fun cdv A outer s H vs Q E hr h => ⟨_,
    have h3 : Room 3 _ := hr.mono hk
    pss_cons (ps_if (pt_cmpR op_eq (pv 1) (pe_callB call_len_seq (by rfl) T.zlen PySem.boot_len (pa_cons (pe_fld (pv 0) rfl) pa_nil)) (nomark _))
      (pss_one (ps_ret (pe_meth (pv 0) T.cs L.atEnd.m L.atEndF (hr.mono hk4) L.atEnd.b .nil pass0 (pa_cons (pv 2) (pa_cons (pv 3) pa_nil))))) pss_nil)
    (pss_cons (ps_set (i := 4) scLk.nd rfl (.inl rfl) (pe_call0 L.noWayF h3 rfl L.noWay.g L.noWay.k L.noWay.b .nil pass0))
    (pss_cons (ps_for PassesOwn.never rfl (pi_range1 rfl T.zrange (pa_cons (pe_callB call_len_seq (by rfl) T.zlen PySem.boot_len (pa_cons (pe_fld (pv 0) rfl) pa_nil)) pa_nil)) (pg_name (i := 5) scLk.nd rfl (.inl rfl))
      (pss_one (ps_set (i := 4) scLk.nd rfl (.inl rfl) (pe_call L.joinedF h3 rfl L.joined.g L.joined.k L.joined.b .nil pass0 (pa_cons (pv 4) (pa_cons
        (pe_meth (pv 0) T.cs B1.m F1 hr B1.b .nil pass0 (pa_cons (pv 5) (pa_cons (pv 1) (pa_cons (pv 2) (pa_cons (pv 3) pa_nil))))) pa_nil))))))
    (pss_one (ps_ret (pv 4))))), ?_⟩)
  · obtain ⟨s, lc, lp, d, t, come, ps, n, b, g, rfl, _⟩ := h
    rfl
  · obtain ⟨s, lc, lp, d, t, come, ps, n, b, g, rfl, S, G, nm, hb, ht, hg, hgn, q⟩ := h
    obtain ⟨dx, hs⟩ := S.f
    refine ⟨_, rfl, _, rfl, s, Cs, dx, _, _, rfl, hs, T.cs, T.ns1, sF1, lc, _, rfl, .inl (SqL.of S.c), ?_⟩
    rw [iv_length]
    refine ⟨rfl, _, rfl, dcase (fun c => absurd (vint_inj c) (by omega)) fun c => ?_⟩
    refine ⟨rfl, fun H1 o1 k1 ho1 => ?_⟩
    have S1 := S.same k1
    obtain ⟨dx1, hs1⟩ := S1.f
    obtain ⟨as, e0, el, _⟩ := S1.p.at_
    refine ⟨_, rfl, s, Cs, dx1, _, _, rfl, hs1, T.cs, T.ns2, sF2, lp, _, rfl, .inl (SqL.of e0), ?_⟩
    have few := G.ps.few
    rw [List.length_map, el]
    refine ⟨((ps.length : Nat) : Int), rfl, by omega, by omega, for_range (lo := 0) (n := ((ps.length : Nat) : Int).toNat) (fun i σ H' => ∃ o v, σ = [some (.ref s), some (.int (n : Nat)), some (.int (b : Nat)), some (.ref t), some (.ref o), v] ∧ Fr d H H' ∧ SearchAt P w Cs Cp Co H' s come ps lc lp d ∧
      OutAt Co H' o (((List.range i).map fun k => Wp.choosing come ps (Wp.look come ps m (n + 1) k (Wp.bump g k)) k n b g).foldl Wp.joined Wp.noWay)) ⟨o1, none, rfl, Fr.of k1, S1, ho1⟩ ?_ ?_⟩
    · rintro i σ H' hi ⟨o, v, rfl, fr, S', ho⟩
      rw [Int.toNat_natCast] at hi
      obtain ⟨dx', hs'⟩ := S'.f
      refine ⟨_, rfl, _, rfl, s, dx', _, rfl, hs', f3_no (by decide +kernel), _, rfl, _, rfl, _, rfl, _, rfl, s, lc, lp, d, t, come, ps, i, n, b, g, by rw [Int.zero_add]; rfl, S', G, by omega, hi, hb, S.tup fr ht, hg, hgn, fun H2 c fr2 S2 hc => ?_⟩
      refine ⟨o, c, _, _, rfl, S'.out fr2 ho, hc, fun H3 j k3 hj => ⟨j, _, rfl, (fr.trans fr2).trans (Fr.of k3), S2.same k3, ?_⟩⟩
      rw [range_fold (α := Nat)]
      exact hj
    · rintro σ H' ⟨o, v, rfl, fr, S', ho⟩
      rw [Int.toNat_natCast] at ho
      exact ⟨_, rfl, q H' o fr S' ho⟩

theorem scOn : FnScope ["self", "night", "before", "given", "standing"] ["self", "night", "before", "given"] (defScope sOnward) := ⟨rfl, rfl, rfl, by decide +kernel, rfl, by decide +kernel, by decide +kernel⟩
theorem ok_onward {k m : Nat} {f1 : Addr} {d1 : FuncData} (F : Fun K "onward" "Search.onward" sOnward f fd) (T : Txt K mg Cp Cr Co Cs Cw)
    (B1 : Mb K Cs "looked_up" f1 d1 ["self", "night", "before", "given"]) (F1 : FnOk P w K mg base CX0 k f1 d1 ["self", "night", "before", "given"] (spOn P w Cs Cp Co m)) :
    FnOk P w K mg base CX0 (k + 1) f fd ["self", "night", "before", "given"] (spOn P w Cs Cp Co m) := by
  refine F.ok scOn (fun vs H Q E h => ?_) (fun cdv A outer s H vs Q E hr h => ⟨_,
    pss_cons (ps_set (i := 4) scOn.nd rfl (.inl rfl) (pe_tup (pa_cons (pv 1) (pa_cons (pv 2) (pa_cons (pv 3) pa_nil)))))
    (pss_cons (ps_if (pt_cmp (pc_knotin (hu64 hr) (pv 4) (pe_fld (pv 0) rfl)))
      (pss_one (ps_kput (hu64 hr) (pe_fld (pv 0) rfl) (pv 4) (pe_meth (pv 0) T.cs B1.m F1 hr B1.b .nil pass0 (pa_cons (pv 1) (pa_cons (pv 2) (pa_cons (pv 3) pa_nil)))) rfl)) pss_nil)
    (pss_one (ps_ret (pe_kget (hu64 hr) (pe_fld (pv 0) rfl) (pv 4) (fun _ _ => rfl))))), ?_⟩)
  · obtain ⟨s, lc, lp, d, t, come, ps, n, b, g, rfl, _⟩ := h
    rfl
  · obtain ⟨s, lc, lp, d, t, come, ps, n, b, g, rfl, S, G, nm, hb, ht, hg, hgn, q⟩ := h
    refine ⟨_, rfl, _, rfl, _, rfl, by show 3 ≤ sizeLine; decide, fun ka nka => ?_⟩
    have k1 : Same H (upd H ka (.tup [.int (n : Nat), .int (b : Nat), .ref t])) := upd_same_keeps nka
    have S1 := S.same k1
    have ke : KeyAt (upd H ka (.tup [.int (n : Nat), .int (b : Nat), .ref t])) ka n b g := ⟨t, upd_same, k1 _ _ ht⟩
    generalize upd H ka (.tup [.int (n : Nat), .int (b : Nat), .ref t]) = H1 at k1 S1 ke
    obtain ⟨dx, hs⟩ := S1.f
    obtain ⟨xs, kn, sem⟩ := S1.kn
    refine ⟨_, rfl, _, rfl, s, Cs, dx, _, _, rfl, hs, T.cs, T.ns3, sF3, d, xs, n, b, g, ka, rfl, kn, rfl, ke, _, rfl, ?_⟩
    cases hf : atKey xs (nk n b g) with
    | some pr =>
      refine iteF ?_
      obtain ⟨kb, u⟩ := pr
      obtain ⟨n', m', b', g', p, h1, h2, h3, h4, h5, h6, h7⟩ := sem _ (at_mem hf)
      obtain ⟨rfl, rfl, rfl⟩ := nk_inj h1
      have em : m' = m := by omega
      subst em
      have hu : u = Value.ref p := h6
      subst hu
      refine ⟨_, rfl, s, Cs, dx, _, _, rfl, hs, T.cs, T.ns3, sF3, _, rfl, d, xs, n, b, g, ka, kb, p, rfl, kn, rfl, ke, hf, ?_⟩
      exact q _ p (Fr.of k1) S1 h7
    | none =>
      refine iteT ?_
      refine ⟨_, rfl, s, dx, _, rfl, hs, f3_no (by decide +kernel), _, rfl, _, rfl, _, rfl, s, lc, lp, d, t, come, ps, n, b, g, rfl, S1, G, nm, hb, k1 _ _ ht, hg, hgn, fun H2 p fr2 S2 ho => ?_⟩
      obtain ⟨dx2, hs2⟩ := S2.f
      obtain ⟨xs2, kn2, sem2⟩ := S2.kn
      have ke2 : KeyAt H2 ka n b g := let ⟨t', h1, h2⟩ := ke; ⟨t', S1.tup fr2 h1, S1.tup fr2 h2⟩
      refine ⟨_, rfl, s, Cs, dx2, _, _, rfl, hs2, T.cs, T.ns3, sF3, _, rfl, d, xs2, n, b, g, ka, p, rfl, rfl, kn2, rfl, ke2, sz _ (by have := ents_len G kn2.nd sem2; omega), ?_⟩
      obtain ⟨kn3, sem3, S3⟩ := S2.put kn2 sem2 ke2 nm hb hg hgn ho
      have fr3 : Fr d H2 (upd H2 d (KnO P w d (storedH xs2 (nk n b g) ka (.ref p)))) := fun c o e z => by rw [upd_ne z]; exact e
      have ke3 : KeyAt (upd H2 d (KnO P w d (storedH xs2 (nk n b g) ka (.ref p)))) ka n b g := let ⟨t', h1, h2⟩ := ke2; ⟨t', S2.tup fr3 h1, S2.tup fr3 h2⟩
      obtain ⟨dx3, hs3⟩ := S3.f
      obtain ⟨kb, hkb⟩ := at_stored (xs := xs2) (nk n b g) ka (.ref p)
      refine ⟨_, rfl, s, Cs, dx3, _, _, rfl, hs3, T.cs, T.ns3, sF3, _, rfl, d, _, n, b, g, ka, kb, p, rfl, kn3, rfl, ke3, hkb, ?_⟩
      exact q _ p (((Fr.of k1).trans fr2).trans fr3) S3 (S2.out fr3 ho)

/-- the three of them, for any number of nights left -/
theorem onward_all {f2' f3' : Addr} {fd2 fd3 : FuncData} (F : Fun K "onward" "Search.onward" sOnward f fd) (B : Mb K Cs "onward" f fd ["self", "night", "before", "given"]) (F2 : Fun K "looked_up" "Search.looked_up" sLooked f2' fd2) (B2 : Mb K Cs "looked_up" f2' fd2 ["self", "night", "before", "given"])
    (F3 : Fun K "choosing" "Search.choosing" sChoosing f3' fd3) (B3 : Mb K Cs "choosing" f3' fd3 ["self", "number", "night", "before", "given"]) (T : Txt K mg Cp Cr Co Cs Cw) (L : Helps P w K mg base Cp Co Cs fO fN fC fM fT fJ fE dO dN dC dM dT dJ dE) :
    ∀ m, FnOk P w K mg base CX0 (lv m) f fd ["self", "night", "before", "given"] (spOn P w Cs Cp Co m)
  | 0 => ok_onward F T B2 (ok_looked0 F2 T L)
  | m + 1 => by
    have h6 := lv_ge m
    exact ok_onward F T B2 (ok_lookedS (by omega) F2 T L B3 (ok_choosing (by omega) F3 T L B (onward_all F B F2 B2 F3 B3 T L m)) (by omega))

/-! ### whole_week -/
def spWhole (P : Program) (w : World) (Cs Cp Co : Addr) : Sp := fun vs H Q _ => ∃ (s lc lp d : Addr) (come : List Nat) (ps : List Play), vs = [.ref s] ∧ SearchAt P w Cs Cp Co H s come ps lc lp d ∧ Good come ps ∧
  ∀ H' a, Fr d H H' → OutAt Co H' a (Wp.look come ps come.length 0 0 (Wp.zeros ps)) → Q (.ref a) H'
theorem scWhole : FnScope ["self"] ["self"] (defScope sWhole) := ⟨rfl, rfl, rfl, by decide +kernel, rfl, by decide +kernel, by decide +kernel⟩
theorem ok_whole {f1 : Addr} {d1 : FuncData} (F : Fun K "whole_week" "Search.whole_week" sWhole f fd) (T : Txt K mg Cp Cr Co Cs Cw) (B1 : Mb K Cs "onward" f1 d1 ["self", "night", "before", "given"])
    (F1 : ∀ m, FnOk P w K mg base CX0 (lv m) f1 d1 ["self", "night", "before", "given"] (spOn P w Cs Cp Co m)) :
    FnOk P w K mg base CX0 25 f fd ["self"] (spWhole P w Cs Cp Co) := by
  have G1 : FnOk P w K mg base CX0 24 f1 d1 ["self", "night", "before", "given"] (fun vs H Q E => ∃ m, m ≤ 6 ∧ spOn P w Cs Cp Co m vs H Q E) :=
    ⟨fun vs H Q E ⟨m, _, h⟩ => (F1 m).len vs H Q E h, fun A outer s H args us vs Q E hr he hb hv ⟨m, hm, h⟩ => (F1 m).run A outer s H args us vs Q E (hr.mono (lv_le m hm)) he hb hv h⟩
  refine F.ok scWhole (fun vs H Q E h => ?_) (fun cdv A outer s H vs Q E hr h => ⟨_,
    pss_one (ps_ret (pe_meth (pv 0) T.cs B1.m G1 hr B1.b .nil pass0 (pa_cons pe_int (pa_cons pe_int (pa_cons (pe_op op_repA (pe_tup (pa_cons pe_int pa_nil)) (pe_callB call_len_seq (by rfl) T.zlen PySem.boot_len (pa_cons (pe_fld (pv 0) rfl) pa_nil))) pa_nil))))), ?_⟩)
  · obtain ⟨s, lc, lp, d, come, ps, rfl, _⟩ := h
    rfl
  · obtain ⟨s, lc, lp, d, come, ps, rfl, S, G, q⟩ := h
    obtain ⟨dx, hs⟩ := S.f
    refine ⟨_, rfl, s, dx, _, rfl, hs, f3_no (by decide +kernel), by show 1 ≤ sizeLine; decide, fun p np => ?_⟩
    have k1 : Same H (upd H p (.tup [.int 0])) := upd_same_keeps np
    obtain ⟨as, e0, el, _⟩ := S.p.at_
    have few := G.ps.few
    have pos := G.ps.pos
    have rest : ∀ H2 t, Same H H2 → H2 t = some (.tup (iv (Wp.zeros ps))) → ∃ m, m ≤ 6 ∧ spOn P w Cs Cp Co m [.ref s, .int 0, .int 0, .ref t] H2 Q E0 := fun H2 t k2 ht =>
      ⟨come.length, G.c6, s, lc, lp, d, t, come, ps, 0, 0, Wp.zeros ps, rfl, S.same k2, G, by omega, pos, ht, List.length_replicate, fun x hx => by
        have := List.eq_of_mem_replicate hx
        omega, fun H' a fr _ ho => q H' a ((Fr.of k2).trans fr) ho⟩
    refine ⟨_, rfl, s, Cs, dx, _, _, rfl, k1 _ _ hs, T.cs, T.ns2, sF2, lp, _, rfl, .inl (SqL.of (k1 _ _ e0)), ?_⟩
    rw [List.length_map, el]
    refine ⟨p, _, _, rfl, rfl, SqT.of upd_same, by simp, by omega, by omega, by show 1 ≤ 1000; decide, fun e => rest _ p k1 ?_, fun e t nt => rest _ t (Same.step k1 nt) ?_⟩
    · rw [upd_same]
      have : ps.length = 1 := by omega
      unfold Wp.zeros
      rw [this]
      rfl
    · rw [upd_same, Int.toNat_natCast, rep_flat]
      rfl
/-! ### Search.__init__ -/
def spSearchInit (P : Program) (w : World) (C : Addr) : Sp := fun vs H Q _ => ∃ (p dx : Addr) (v1 v2 : V), vs = [.ref p, v1, v2] ∧ H p = some (.ins C dx []) ∧
  ∀ d, H d = none → (d == sysModules) = false → Q .non (upd (upd H d (KnO P w d [])) p (.ins C dx (f3 "come" v1 "plays" v2 "known" (.ref d))))
theorem scSearchInit : FnScope ["self", "come", "plays"] ["self", "come", "plays"] (defScope sSearchInit) := ⟨rfl, rfl, rfl, by decide +kernel, rfl, by decide +kernel, by decide +kernel⟩
theorem ok_searchInit (F : Fun K "__init__" "Search.__init__" sSearchInit f fd) (T : Txt K mg Cp Cr Co Cs Cw) : FnOk P w K mg base CX0 1 f fd ["self", "come", "plays"] (spSearchInit P w Cs) := by
  refine F.ok scSearchInit (fun vs H Q E h => ?_) (fun cdv A outer s H vs Q E hr h => ⟨_, pss_cons (ps_fld (pv 0) (pv 1) rfl) (pss_cons (ps_fld (pv 0) (pv 2) rfl) (pss_one (ps_fld (pv 0) pe_knew rfl))), ?_⟩)
  · obtain ⟨p, dx, v1, v2, rfl, _⟩ := h
    rfl
  · obtain ⟨p, dx, v1, v2, rfl, hp, q⟩ := h
    refine ⟨_, rfl, _, rfl, p, Cs, dx, _, rfl, hp, T.cs, T.ns1, (by show 0 < 1000; decide), ?_⟩
    refine ⟨_, rfl, _, rfl, p, Cs, dx, _, rfl, upd_same, T.cs, T.ns2, (by show 1 < 1000; decide), ?_⟩
    rw [upd_upd]
    refine fun d nd hd => ⟨_, rfl, p, Cs, dx, _, rfl, upd_same_keeps nd _ _ upd_same, T.cs, T.ns3, (by show 2 < 1000; decide), ?_⟩
    have ndp : d ≠ p := fun e => by rw [e, upd_same] at nd; cases nd
    have nd0 : H d = none := by rw [upd_ne ndp] at nd; exact nd
    have e : ∀ (o o1 o2 : HO), upd (upd (upd H p o1) d o2) p o = upd (upd H d o2) p o := fun o o1 o2 => by
      funext b
      by_cases h1 : b = p
      · subst h1; rw [upd_same, upd_same]
      · rw [upd_ne h1, upd_ne h1]
        by_cases h2 : b = d
        · subst h2; rw [upd_same, upd_same]
        · rw [upd_ne h2, upd_ne h2, upd_ne h1]
    rw [e, put_new, put_past (by decide +kernel), put_new, put_past (by decide +kernel), put_past (by decide +kernel), put_new]
    exact q d nd0 hd
end
end Wd

/-! The defs of week.py: the dark house, the nights, a new week, begins, play. -/
namespace Wd
open PySem PySem.Spec PyProof.Rows L2 Wr Wh
open Uw05 (Best)
/-- what a call on the week leaves -/
def WPost (C Cp : Addr) (a lc lp y : Addr) (wk : Week) (H : Hp) (c : Uw05.Call) (Q : VK) : Prop :=
  ∀ (H' : Hp) (p lc' lp' : Addr), WeekAt C Cp H' a (Uw05.step wk c).1 lc' lp' y → (∀ b o, H b = some o → b ≠ a → b ≠ lc → b ≠ lp → H' b = some o) → (lc' = lc ∨ H lc' = none) → (lp' = lp ∨ H lp' = none) → H p = none →
    H' p = some (.lst ((Uw05Neutral.out (Uw05.step wk c).2).map V.int)) → Q (.ref p) H'
theorem wF1 {lc lp : V} : (f2 "come" lc "plays" lp).lookup ("come" : Str) = some lc := lk_here
theorem wF2 {lc lp : V} : (f2 "come" lc "plays" lp).lookup ("plays" : Str) = some lp := (lk_past (by decide +kernel)).trans lk_here
theorem f2_no {a b k : Str} {x y : V} (h : ((k == a) || (k == b)) = false) : (f2 a x b y).lookup k = none := by
  rw [Bool.or_eq_false_iff] at h
  exact (lk_past h.1).trans ((lk_past h.2).trans rfl)
theorem wP1 {lc lp x : V} : putF "come" x (f2 "come" lc "plays" lp) = f2 "come" x "plays" lp := put_here
theorem wP2 {lc lp x : V} : putF "plays" x (f2 "come" lc "plays" lp) = f2 "come" lc "plays" x := (put_past (by decide +kernel)).trans (congrArg _ put_here)
theorem WeekAt.same {C Cp : Addr} {H H' : Hp} {a lc lp y : Addr} {wk : Week} (h : WeekAt C Cp H a wk lc lp y) (k : Same H H') : WeekAt C Cp H' a wk lc lp y :=
  let ⟨dx, h1, h2, h3⟩ := h
  ⟨dx, k _ _ h1, k _ _ h2, h3.same k⟩
/-- a call that changes nothing -/
theorem WPost.quiet {C Cp : Addr} {a lc lp y : Addr} {wk : Week} {H H' : Hp} {c : Uw05.Call} {Q : VK} (q : WPost C Cp a lc lp y wk H c Q) (hw : WeekAt C Cp H a wk lc lp y) (k : Same H H') {p : Addr} (n : H p = none) (e : (Uw05.step wk c).1 = wk)
    {xs : List V} (hp : H' p = some (.lst xs)) (ex : xs = (Uw05Neutral.out (Uw05.step wk c).2).map V.int) : Q (.ref p) H' :=
  q H' p lc lp (by rw [e]; exact WeekAt.same hw k) (fun b o h _ _ _ => k b o h) (.inl rfl) (.inl rfl) n (by rw [hp, ex])
theorem out_ok (z : Int) : (Uw05Neutral.out (Uw05.ok z)).map V.int = [V.int z] := rfl
section
variable {P : Program} {w : World} {K : PySem.W.Frag} {mg : Str → Option Value} {base : Heap} {Cp Cr Co Cs Cw : Addr} {f : Addr} {fd : FuncData}
structure MkP (P : Program) (w : World) (K : PySem.W.Frag) (mg : Str → Option Value) (base : Heap) (Cp f : Addr) (fd : FuncData) : Prop where
  m : Mk K Cp f
  F : FnOk P w K mg base CX0 1 f fd ["self", "set_up", "strike", "may_run", "least", "most", "brings"] (spPlayInit Cp)
  b : Binds K fd ["self", "set_up", "strike", "may_run", "least", "most", "brings"] []
def spDark (C : Addr) : Sp := fun vs H Q _ => vs = [] ∧ ∀ H' a r, Same H H' → PlayAt C H' a Wp.dark r → H r = none → Q (.ref a) H'
theorem scDark : FnScope [] [] (defScope sDark) := ⟨rfl, rfl, rfl, by decide +kernel, rfl, by decide +kernel, by decide +kernel⟩
theorem ok_dark {fi : Addr} {fdi : FuncData} (F : Fun K "dark_house" "dark_house" sDark f fd) (T : Txt K mg Cp Cr Co Cs Cw) (M : MkP P w K mg base Cp fi fdi) : FnOk P w K mg base CX0 3 f fd [] (spDark Cp) := by
  refine F.ok scDark (fun vs H Q E h => ?_) (fun cdv A outer s H vs Q E hr h => ⟨_,
    pss_one (ps_ret (pe_make M.m M.F hr rfl T.gp M.b .nil pass0 (pa_cons pe_int (pa_cons pe_int (pa_cons pe_int (pa_cons pe_int (pa_cons (pe_k T.kNights) (pa_cons (pe_lst (pa_cons pe_int pa_nil)) pa_nil)))))))), ?_⟩)
  · obtain ⟨rfl, _⟩ := h
    rfl
  · obtain ⟨rfl, q⟩ := h
    refine ⟨by show 1 ≤ sizeLine; decide, fun r nr x dx nx nd ne => ⟨x, dx, _, _, _, _, _, _, rfl, upd_same, rfl, ?_⟩⟩
    refine q _ x r ((upd_same_keeps nr).trans (made nx nd ne)) ⟨dx, upd_same, ?_⟩ nr
    exact made nx nd ne _ _ upd_same

def nightsOk (n : List Nat) : Bool := !decide (n = [] ∨ Uw05.NIGHTS < n.length ∨ (n.all fun x => decide (x ≤ Uw05.HUNDRED)) = false)
def spAreN : Sp := fun vs H Q _ => ∃ (l : Addr) (n : List Nat), vs = [.ref l] ∧ H l = some (.lst (iv n)) ∧ Q (.bl (nightsOk n)) H
theorem scAreN : FnScope ["come"] ["come"] (defScope sAreNights) := ⟨rfl, rfl, rfl, by decide +kernel, rfl, by decide +kernel, by decide +kernel⟩
theorem ok_areN (F : Fun K "are_nights" "are_nights" sAreNights f fd) (T : Txt K mg Cp Cr Co Cs Cw) : FnOk P w K mg base CX0 1 f fd ["come"] spAreN := by
  refine F.ok scAreN (fun vs H Q E h => ?_) (fun cdv A outer s H vs Q E hr h => ⟨_,
    pss_one (ps_ret (pe_and (pe_chain op_le op_le pe_int (pe_callB call_len_seq (by rfl) T.zlen PySem.boot_len (pa_cons (pv 0) pa_nil)) (pe_k T.kNights))
      (pe_one (pe_cmpR op_le (pe_callB (cr_max rfl) (by rfl) T.zmax (by decide +kernel) (pa_cons (pv 0) pa_nil)) (pe_k T.kCome) (nomark _))))), ?_⟩)
  · obtain ⟨l, n, rfl, _⟩ := h
    rfl
  · obtain ⟨l, n, rfl, h1, q⟩ := h
    have no : (n = [] ∨ Uw05.NIGHTS < n.length ∨ (n.all fun x => decide (x ≤ Uw05.HUNDRED)) = false) → Q (.bl false) H := fun c => by
      have e : nightsOk n = false := by unfold nightsOk; rw [decide_eq_true c]; rfl
      rw [e] at q; exact q
    refine ⟨_, rfl, l, _, rfl, .inl (SqL.of h1), _, _, rfl, rfl, _, rfl, dcase (fun c5 => ?_) fun c5 => ?_⟩
    · rw [iv_length] at c5
      refine ⟨_, _, rfl, rfl, _, rfl, dcase (fun c6 => ?_) fun c6 => no (.inr (.inl ?_))⟩
      · rw [iv_length] at c6
        refine ⟨_, rfl, l, _, rfl, SqL.of (by rw [← iv_ints]; exact h1), by rw [List.length_map]; omega, fun m hm hx => ⟨_, _, rfl, rfl, ?_⟩⟩
        have e : (n.all fun x => decide (x ≤ Uw05.HUNDRED)) = decide (m ≤ (300 : Int)) := all_max hm hx 300
        show Q (.bl (decide (m ≤ (300 : Int)))) H
        rw [← e]
        cases ed : (n.all fun x => decide (x ≤ Uw05.HUNDRED)) with
        | true =>
          have e' : nightsOk n = true := by
            unfold nightsOk
            rw [ed]
            have : ¬ (n = [] ∨ Uw05.NIGHTS < n.length ∨ (true = false)) := by
              rintro (z | z | z)
              · subst z
                simp at c5
              · have : Uw05.NIGHTS = 6 := rfl
                omega
              · cases z
            rw [decide_eq_false this]; rfl
          rw [e'] at q; exact q
        | false => exact no (.inr (.inr ed))
      · rw [iv_length] at c6
        show 6 < n.length
        omega
    · refine ⟨_, rfl, iteF (no (.inl ?_))⟩
      rw [iv_length] at c5
      exact List.length_eq_zero_iff.mp (by omega)

/-! ### a new week -/
theorem plays_one {H : Hp} {l x y a r : Addr} {p : Play} (hl : H l = some (.lst [.ref a])) (hp : PlayAt Cp H a p r) (n : r ≠ x) (n' : r ≠ y) : Plays2 Cp H l [p] x y :=
  ⟨[a], hl, rfl, fun i b q h1 h2 => by
    cases i with
    | zero =>
      have e1 : a = b := by simpa using h1
      have e2 : p = q := by simpa using h2
      subst e1 e2
      exact ⟨r, hp, n, n'⟩
    | succ j => simp at h1⟩
def spWeekInit (C Cp : Addr) : Sp := fun vs H Q _ => ∃ (p dx : Addr), vs = [.ref p] ∧ H p = some (.ins C dx []) ∧
  ∀ H' lc lp, WeekAt C Cp H' p Uw05.init lc lp lc → (∀ b o, H b = some o → b ≠ p → H' b = some o) → H lc = none → H lp = none → Q .non H'
theorem scWeekInit : FnScope ["self"] ["self"] (defScope sWeekInit) := ⟨rfl, rfl, rfl, by decide +kernel, rfl, by decide +kernel, by decide +kernel⟩
theorem ok_weekInit {fD : Addr} {dD : FuncData} (F : Fun K "__init__" "Week.__init__" sWeekInit f fd) (T : Txt K mg Cp Cr Co Cs Cw) (D : Cb K mg "dark_house" fD dD []) (FD : FnOk P w K mg base CX0 3 fD dD [] (spDark Cp)) :
    FnOk P w K mg base CX0 4 f fd ["self"] (spWeekInit Cw Cp) := by
  refine F.ok scWeekInit (fun vs H Q E h => ?_) (fun cdv A outer s H vs Q E hr h => ⟨_, pss_cons (ps_fld (pv 0) (pe_lst pa_nil) rfl) (pss_one (ps_fld (pv 0) (pe_lst (pa_cons (pe_call0 FD hr rfl D.g D.k D.b .nil pass0) pa_nil)) rfl)), ?_⟩)
  · obtain ⟨p, dx, rfl, _⟩ := h
    rfl
  · obtain ⟨p, dx, rfl, hp, q⟩ := h
    refine ⟨by show 0 ≤ sizeLine; decide, fun lc nc => ⟨_, rfl, p, Cw, dx, _, rfl, upd_same_keeps nc _ _ hp, T.cw, T.nw1, (by show 0 < 1000; decide), ?_⟩⟩
    have kc : Same H (upd H lc (.lst [])) := upd_same_keeps nc
    have cp : lc ≠ p := fun e => by rw [e, hp] at nc; cases nc
    refine ⟨rfl, fun H1 a r k1 pa nr => ?_⟩
    have e1 : H1 p = some (.ins Cw dx (putF "come" (.ref lc) [])) := k1 _ _ upd_same
    have ec : H1 lc = some (.lst []) := k1 _ _ (by rw [upd_ne cp]; exact upd_same)
    refine ⟨by show 1 ≤ sizeLine; decide, fun lp np => ⟨_, rfl, p, Cw, dx, _, rfl, upd_same_keeps np _ _ e1, T.cw, T.nw2, (by show 1 < 1000; decide), ?_⟩⟩
    have k2 : Same H1 (upd H1 lp (.lst [.ref a])) := upd_same_keeps np
    have lpp : lp ≠ p := fun e => by rw [e, e1] at np; cases np
    have hfree : ∀ b, H1 b = none → H b = none := fun b n => by
      have := k1.free n
      by_cases e : b = p
      · subst e; rw [upd_same] at this; cases this
      · rw [upd_ne e] at this; exact kc.free this
    refine q _ lc lp ⟨dx, ?_, ?_, plays_one (a := a) (r := r) ?_ ?_ ?_ ?_⟩ (fun b o e n => ?_) nc (hfree lp np)
    · rw [upd_same, put_new, put_past (by decide +kernel), put_new]; rfl
    · rw [upd_ne cp]; exact k2 _ _ ec
    · rw [upd_ne lpp]; exact upd_same
    · obtain ⟨dp, h1, h2⟩ := pa
      have ap : a ≠ p := fun e => by
        rw [e, e1] at h1
        have z := Option.some.inj h1
        injection z with _ _ z3
        rw [put_new] at z3
        exact absurd (congrArg List.length z3) (by show ¬ 1 = 6; decide)
      have rp : r ≠ p := fun e => by rw [e, e1] at h2; cases h2
      exact ⟨dp, by rw [upd_ne ap]; exact k2 _ _ h1, by rw [upd_ne rp]; exact k2 _ _ h2⟩
    · intro e
      rw [e, upd_ne cp, upd_same] at nr; cases nr
    · intro e
      rw [e, upd_ne cp, upd_same] at nr; cases nr
    · rw [upd_ne n]
      refine k2 _ _ (k1 _ _ ?_)
      rw [upd_ne n]
      exact kc _ _ e

/-! ### begins -/
def spBegins (C Cp : Addr) : Sp := fun vs H Q _ => ∃ (a lc lp y l : Addr) (wk : Week) (n : List Nat), vs = [.ref a, .ref l] ∧ WeekAt C Cp H a wk lc lp y ∧ (∃ o, H y = some o) ∧ H l = some (.lst (iv n)) ∧ WPost C Cp a lc lp y wk H (.begins n) Q
theorem scBegins : FnScope ["self", "come"] ["self", "come"] (defScope sBegins) := ⟨rfl, rfl, rfl, by decide +kernel, rfl, by decide +kernel, by decide +kernel⟩
theorem ok_begins {fD fA : Addr} {dD dA : FuncData} (F : Fun K "begins" "Week.begins" sBegins f fd) (T : Txt K mg Cp Cr Co Cs Cw) (D : Cb K mg "dark_house" fD dD []) (FD : FnOk P w K mg base CX0 3 fD dD [] (spDark Cp))
    (A : Cb K mg "are_nights" fA dA ["come"]) (FA : FnOk P w K mg base CX0 1 fA dA ["come"] spAreN) :
    FnOk P w K mg base CX0 4 f fd ["self", "come"] (spBegins Cw Cp) := by
  refine F.ok scBegins (fun vs H Q E h => ?_) (fun cdv Ar outer s H vs Q E hr h => ⟨_,
    pss_cons (ps_if (pt_not (pt_truth (pe_call FA (hr.mono (by decide)) rfl A.g A.k A.b .nil pass0 (pa_cons (pv 1) pa_nil)) (fun _ => rfl))) (pss_one (ps_ret (pe_lst (pa_cons (pe_un un_neg pe_int) pa_nil)))) pss_nil)
    (pss_cons (ps_fld (pv 0) (pe_callTy call_list_of (by rfl) T.zlist (by decide +kernel) (pa_cons (pv 1) pa_nil)) rfl)
    (pss_cons (ps_fld (pv 0) (pe_lst (pa_cons (pe_call0 FD hr rfl D.g D.k D.b .nil pass0) pa_nil)) rfl)
    (pss_one (ps_ret (pe_lst (pa_cons (pe_callB call_len_seq (by rfl) T.zlen PySem.boot_len (pa_cons (pv 1) pa_nil)) pa_nil)))))), ?_⟩)
  · obtain ⟨a, lc, lp, y, l, wk, n, rfl, _⟩ := h
    rfl
  · obtain ⟨a, lc, lp, y, l, wk, n, rfl, hw, ⟨oy, hy⟩, hl, q⟩ := h
    obtain ⟨dx, h1, h2, h3⟩ := id hw
    refine ⟨_, rfl, l, n, rfl, hl, _, rfl, ?_⟩
    by_cases c : n = [] ∨ Uw05.NIGHTS < n.length ∨ (n.all fun x => decide (x ≤ Uw05.HUNDRED)) = false
    · have e : nightsOk n = false := by unfold nightsOk; rw [decide_eq_true c]; rfl
      rw [e]
      refine iteT ⟨1, rfl, by show 1 ≤ sizeLine; decide, fun p np => ?_⟩
      have es : Uw05.step wk (.begins n) = (wk, Uw05.ok (-1)) := if_pos c
      exact q.quiet hw (upd_same_keeps np) np (by rw [es]) upd_same (by rw [es]; rfl)
    · have e : nightsOk n = true := by unfold nightsOk; rw [decide_eq_false c]; rfl
      rw [e]
      refine iteF ?_
      have es : Uw05.step wk (.begins n) = (⟨n, []⟩, Uw05.ok (n.length : Nat)) := if_neg c
      refine ⟨_, rfl, l, _, rfl, .inl (SqL.of hl), fun lc' nc => ⟨_, rfl, a, Cw, dx, _, rfl, upd_same_keeps nc _ _ h1, T.cw, T.nw1, (by show 2 < 1000; decide), ?_⟩⟩
      rw [wP1]
      have kc : Same H (upd H lc' (.lst (iv n))) := upd_same_keeps nc
      have ca : lc' ≠ a := fun e => by rw [e, h1] at nc; cases nc
      refine ⟨rfl, fun H1 da r k1 pa nr => ?_⟩
      have e1 : H1 a = some (.ins Cw dx (f2 "come" (.ref lc') "plays" (.ref lp))) := k1 _ _ upd_same
      have ec : H1 lc' = some (.lst (iv n)) := k1 _ _ (by rw [upd_ne ca]; exact upd_same)
      refine ⟨by show 1 ≤ sizeLine; decide, fun lp' np => ⟨_, rfl, a, Cw, dx, _, rfl, upd_same_keeps np _ _ e1, T.cw, T.nw2, (by show 2 < 1000; decide), ?_⟩⟩
      rw [wP2]
      have k2 : Same H1 (upd H1 lp' (.lst [.ref da])) := upd_same_keeps np
      have lpa : lp' ≠ a := fun e => by rw [e, e1] at np; cases np
      have hfree : ∀ b, H1 b = none → H b = none := fun b n => by
        have := k1.free n
        by_cases e : b = a
        · subst e; rw [upd_same] at this; cases this
        · rw [upd_ne e] at this; exact kc.free this
      have keep : ∀ b o, H b = some o → b ≠ a → upd (upd H1 lp' (.lst [.ref da])) a (.ins Cw dx (f2 "come" (.ref lc') "plays" (.ref lp'))) b = some o := fun b o e n => by
        rw [upd_ne n]
        refine k2 _ _ (k1 _ _ ?_)
        rw [upd_ne n]
        exact kc _ _ e
      have la : l ≠ a := fun e => by rw [e, h1] at hl; cases hl
      refine ⟨_, rfl, l, _, rfl, .inl (SqL.of (keep _ _ hl la)), by show 1 ≤ sizeLine; decide, fun p nP => ?_⟩
      have nP1 : H1 p = none := by
        have := upd_none nP
        exact upd_none this
      have kP : Same (upd (upd H1 lp' (.lst [.ref da])) a (.ins Cw dx (f2 "come" (.ref lc') "plays" (.ref lp')))) (upd (upd (upd H1 lp' (.lst [.ref da])) a (.ins Cw dx (f2 "come" (.ref lc') "plays" (.ref lp')))) p (.lst [.int ((iv n).length : Nat)])) := upd_same_keeps nP
      refine q _ p lc' lp' ?_ (fun b o e nb _ _ => kP _ _ (keep b o e nb)) (.inr nc) (.inr (hfree _ np)) (hfree _ nP1) ?_
      · rw [es]
        refine ⟨dx, kP _ _ upd_same, kP _ _ ?_, plays_one (a := da) (r := r) (kP _ _ ?_) ?_ ?_ ?_⟩
        · rw [upd_ne ca]; exact k2 _ _ ec
        · rw [upd_ne lpa]; exact upd_same
        · obtain ⟨dp, p1, p2⟩ := pa
          have ap : da ≠ a := fun e => by
            rw [e, e1] at p1
            have z := Option.some.inj p1
            injection z with _ _ z3
            exact absurd (congrArg List.length z3) (by show ¬ 2 = 6; decide)
          have rp : r ≠ a := fun e => by rw [e, e1] at p2; cases p2
          exact ⟨dp, kP _ _ (by rw [upd_ne ap]; exact k2 _ _ p1), kP _ _ (by rw [upd_ne rp]; exact k2 _ _ p2)⟩
        · intro e
          rw [e, upd_ne ca, upd_same] at nr; cases nr
        · intro e
          have nr0 := nr
          rw [e] at nr0
          by_cases ya : y = a
          · rw [ya, upd_same] at nr0; cases nr0
          · rw [upd_ne ya, kc _ _ hy] at nr0; cases nr0
      · rw [upd_same, es, iv_length]; rfl
end
end Wd

/-! The defs of week.py, to their end. -/
namespace Wd
open PySem PySem.Spec PyProof.Rows L2 Wr Wh
open Uw05 (Best)

/-! ### what is told, in the specification's words -/
theorem full_plays {wk : Week} (h : Wp.WeekOk wk) : Plays (Wp.full wk) := by
  refine ⟨Nat.succ_pos _, by have := h.p4; show wk.plays.length + 1 ≤ 5; omega, fun k hk => ?_, fun k hk => ?_⟩
  · cases k with
    | zero => exact (by decide : 1 ≤ Wp.dark.brings.length)
    | succ j =>
      have hj : j < wk.plays.length := by have : j + 1 < wk.plays.length + 1 := hk; omega
      have e : Wp.pl (Wp.full wk) (j + 1) = wk.plays[j] := by
        show (wk.plays[j]?).getD Wp.dark = _
        rw [List.getElem?_eq_getElem hj]; rfl
      rw [e]
      exact (h.plays _ (List.getElem_mem hj)).b1
  · cases k with
    | zero => exact (Wp.dark_ok 0).2.2.1
    | succ j =>
      have hj : j < wk.plays.length := by have : j + 1 < wk.plays.length + 1 := hk; omega
      have e : Wp.pl (Wp.full wk) (j + 1) = wk.plays[j] := by
        show (wk.plays[j]?).getD Wp.dark = _
        rw [List.getElem?_eq_getElem hj]; rfl
      rw [e]
      exact (h.plays _ (List.getElem_mem hj)).b3
def outs (l : List (List Nat)) : List Int := l.flatMap fun v => (v.length : Int) :: v.map fun (x : Nat) => (x : Int)
theorem out_eq (v : Int) (l : List (List Nat)) : (Uw05Neutral.out ⟨v, l⟩).map V.int = V.int v :: (outs l).map V.int := rfl
theorem tell_told {wk : Week} {b : List Nat} (hx : ∀ x ∈ b, x ≤ wk.plays.length) : (outs (Uw05.tell wk b)).map V.int = iv (told wk.nights (Wp.full wk) b) := by
  have e : outs (Uw05.tell wk b) = (told wk.nights (Wp.full wk) b).map fun k : Nat => (k : Int) := by
    unfold outs Uw05.tell told
    rw [Wp.took_eq, ← Wp.took_is hx, ← Wp.work_is hx]
    simp only [List.flatMap_cons, List.flatMap_nil, List.append_nil, List.map_append, List.map_cons, List.map_nil, took_length, List.append_assoc]
    rfl
  rw [e, ← iv_ints]
theorem out_best {wk : Week} {b : List Nat} (hx : ∀ x ∈ b, x ≤ wk.plays.length) (v : Int) (m : Nat) : (Uw05Neutral.out ⟨v, [m] :: Uw05.tell wk b⟩).map V.int = [V.int v] ++ (.int 1 :: [.int (m : Nat)]) ++ iv (told wk.nights (Wp.full wk) b) := by
  rw [out_eq, ← tell_told hx]
  rfl
theorem night_fun {wk : Week} {b : List Nat} (hx : ∀ x ∈ b, x ≤ wk.plays.length) : badNight (Wp.full wk) b = Wp.tired wk b := by
  funext i
  rw [Wp.tired_is hx]
  rfl
theorem play_none {wk : Week} {b : List Nat} {k : Nat} : badPlay (Wp.full wk) b k = [] ↔ (Wp.pl (Wp.full wk) k).least ≤ Uw05.times b k ∧ Uw05.times b k ≤ (Wp.pl (Wp.full wk) k).most := by
  unfold badPlay
  by_cases h1 : Uw05.times b k < (Wp.pl (Wp.full wk) k).least
  · rw [if_pos h1]
    constructor
    · intro z; cases z
    · rintro ⟨z, _⟩; omega
  · rw [if_neg h1]
    by_cases h2 : (Wp.pl (Wp.full wk) k).most < Uw05.times b k
    · rw [if_pos h2]
      constructor
      · intro z; cases z
      · rintro ⟨_, z⟩; omega
    · rw [if_neg h2]
      exact ⟨fun _ => by omega, fun _ => rfl⟩
theorem play_some {wk : Week} {b : List Nat} {k : Nat} (h0 : 0 < k) (h : badPlay (Wp.full wk) b k ≠ []) : ∃ r, Wp.amiss wk b (Wp.pl (Wp.full wk) k, k - 1) = some r ∧ badPlay (Wp.full wk) b k = [r.1, r.2] := by
  unfold badPlay at h ⊢
  unfold Wp.amiss
  show ∃ r, (if Uw05.times b (k - 1 + 1) < (Wp.pl (Wp.full wk) k).least then some (2, k - 1 + 1) else if (Wp.pl (Wp.full wk) k).most < Uw05.times b (k - 1 + 1) then some (3, k - 1 + 1) else none) = some r ∧ _
  rw [show k - 1 + 1 = k from by omega]
  by_cases h1 : Uw05.times b k < (Wp.pl (Wp.full wk) k).least
  · rw [if_pos h1, if_pos h1]
    exact ⟨_, rfl, rfl⟩
  · rw [if_neg h1] at h ⊢
    rw [if_neg h1]
    by_cases h2 : (Wp.pl (Wp.full wk) k).most < Uw05.times b k
    · rw [if_pos h2, if_pos h2]
      exact ⟨_, rfl, rfl⟩
    · rw [if_neg h2] at h
      exact absurd rfl h
theorem fw_wrong {wk : Week} (h6 : wk.nights.length ≤ 6) {b : List Nat} (hb : b.length = wk.nights.length) (hx : ∀ x ∈ b, x ≤ wk.plays.length) :
    fw (Wp.full wk) b = match wk.wrong b with
      | none => []
      | some x => [x.1, x.2] := by
  rw [Wp.wrong_eq]
  unfold fw wn
  rw [night_fun hx]
  cases hf : (List.range b.length).find? (Wp.tired wk b) with
  | some i => rfl
  | none =>
    show wpl (Wp.full wk) b = _
    have d0 : badPlay (Wp.full wk) b 0 = [] := play_none.mpr (by
      rw [Wp.pl_zero]
      have := Wp.times_le b 0
      show 0 ≤ _ ∧ _ ≤ 6
      omega)
    unfold wpl
    cases hg : (List.range (Wp.full wk).length).find? (fun k => !(badPlay (Wp.full wk) b k).isEmpty) with
    | none =>
      have all := Wp.find_none.mp hg
      have e : wk.plays.zipIdx.findSome? (Wp.amiss wk b) = none := Wp.zip_none.mpr fun k _ hk => play_none.mp (by
        have := all k hk
        cases z : badPlay (Wp.full wk) b k with
        | nil => rfl
        | cons _ _ => rw [z] at this; cases this)
      rw [e]
    | some k =>
      obtain ⟨h1, h2, h3⟩ := List.find?_range_eq_some.mp hg
      have kl : k < (Wp.full wk).length := List.mem_range.mp h2
      have ne : badPlay (Wp.full wk) b k ≠ [] := fun z => by rw [z] at h1; cases h1
      have k0 : 0 < k := Nat.pos_of_ne_zero fun z => ne (by rw [z]; exact d0)
      obtain ⟨r, e1, e2⟩ := play_some k0 ne
      have e : wk.plays.zipIdx.findSome? (Wp.amiss wk b) = some r := Wp.zip_some k0 kl (fun j _ hj => play_none.mp (by
        have := h3 j hj
        cases z : badPlay (Wp.full wk) b j with
        | nil => rfl
        | cons _ _ => rw [z] at this; cases this)) e1
      rw [e]
      exact e2
theorem map_erase {α β : Type} (F : α → β) : ∀ (l : List α) (k : Nat), (l.map F).eraseIdx k = (l.eraseIdx k).map F
  | [], _ => rfl
  | _ :: _, 0 => rfl
  | x :: r, k + 1 => congrArg (List.cons (F x)) (map_erase F r k)
/-- lists that are no lists of plays -/
theorem ref_ne {as : List Addr} {g : List Nat} (h : 0 < as.length) : HO.lst (as.map V.ref) ≠ HO.lst (iv g) := fun e => by
  injection e with e
  cases as with
  | nil => simp at h
  | cons a r => cases g with
    | nil => cases e
    | cons x s =>
      rw [List.map_cons] at e
      unfold iv at e
      rw [List.map_cons] at e
      injection e with e _
      cases e

section
variable {P : Program} {w : World} {K : PySem.W.Frag} {mg : Str → Option Value} {base : Heap} {Cp Cr Co Cs Cw : Addr} {f : Addr} {fd : FuncData}

/-! ### play -/
def spPlay (C Cp : Addr) : Sp := fun vs H Q _ => ∃ (a lc lp y t r : Addr) (wk : Week) (p : Play), vs = [.ref a, .ref t] ∧ WeekAt C Cp H a wk lc lp y ∧ Wp.WeekOk wk ∧ PlayAt Cp H t p r ∧ r ≠ lc ∧ r ≠ y ∧ p.brings.length ≤ 100000 ∧ WPost C Cp a lc lp y wk H (.play p) Q
theorem scPlay : FnScope ["self", "told", "number"] ["self", "told"] (defScope sPlay) := ⟨rfl, rfl, rfl, by decide +kernel, rfl, by decide +kernel, by decide +kernel⟩
theorem ok_play {f1 : Addr} {d1 : FuncData} (F : Fun K "play" "Week.play" sPlay f fd) (T : Txt K mg Cp Cr Co Cs Cw) (B : Mb K Cp "is_as_told" f1 d1 ["self", "nights"]) (F1 : FnOk P w K mg base CX0 1 f1 d1 ["self", "nights"] (spTold Cp)) :
    FnOk P w K mg base CX0 2 f fd ["self", "told"] (spPlay Cw Cp) := by
  refine F.ok scPlay (fun vs H Q E h => ?_) (fun cdv A outer s H vs Q E hr h => ⟨_,
    pss_cons (ps_if (pt_not (pt_truth (pe_meth (pv 1) T.cp B.m F1 hr B.b .nil pass0 (pa_cons (pe_callB call_len_seq (by rfl) T.zlen PySem.boot_len (pa_cons (pe_fld (pv 0) rfl) pa_nil)) pa_nil)) (fun _ => rfl))) (pss_one (ps_ret (pe_lst (pa_cons (pe_un un_neg pe_int) pa_nil)))) pss_nil)
    (pss_cons (ps_set (i := 2) scPlay.nd rfl (.inl rfl) (pe_callB call_len_seq (by rfl) T.zlen PySem.boot_len (pa_cons (pe_fld (pv 0) rfl) pa_nil)))
    (pss_cons (ps_if (pt_cmpR op_gt (pv 2) (pe_k T.kPlays) (nomark _)) (pss_one (ps_ret (pe_lst (pa_cons (pe_un un_neg pe_int) pa_nil)))) pss_nil)
    (pss_cons (ps_expr (pe_bm PySem.F.plainAttrs_list PySem.F.slot_list_append PySem.F.type_list_append mt_append (pe_fld (pv 0) rfl) (pa_cons (pv 1) pa_nil)))
    (pss_one (ps_ret (pe_lst (pa_cons (pv 2) pa_nil))))))), ?_⟩)
  · obtain ⟨a, lc, lp, y, t, r, wk, p, rfl, _⟩ := h
    rfl
  · obtain ⟨a, lc, lp, y, t, r, wk, p, rfl, hw, hok, hp, hrc, hry, hz, q⟩ := h
    obtain ⟨dx, h1, h2, h3⟩ := id hw
    obtain ⟨as, e0, el, e1⟩ := id h3
    obtain ⟨dp, p1, p2⟩ := id hp
    have p4 := hok.p4
    have hlen : as.length = wk.plays.length + 1 := el
    refine ⟨_, rfl, t, dp, _, rfl, p1, pF_no (by decide +kernel), ?_⟩
    refine ⟨_, rfl, a, Cw, dx, _, _, rfl, h1, T.cw, T.nw1, wF1, lc, _, rfl, .inl (SqL.of h2), t, wk, p, r, by rw [iv_length]; rfl, hp, hz, _, rfl, ?_⟩
    cases hpo : Uw05.playOk wk p with
    | false =>
      refine iteT ⟨1, rfl, by show 1 ≤ sizeLine; decide, fun v nv => ?_⟩
      have es : Uw05.step wk (.play p) = (wk, Uw05.ok (-1)) := if_pos hpo
      exact q.quiet hw (upd_same_keeps nv) nv (by rw [es]) upd_same (by rw [es]; rfl)
    | true =>
      refine iteF ⟨_, rfl, a, Cw, dx, _, _, rfl, h1, T.cw, T.nw2, wF2, lp, _, rfl, .inl (SqL.of e0), ?_⟩
      rw [List.length_map, hlen]
      refine ⟨_, rfl, _, _, rfl, rfl, _, rfl, dcase (fun c => ?_) fun c => ?_⟩
      · refine ⟨5, rfl, by show 1 ≤ sizeLine; decide, fun v nv => ?_⟩
        have es : Uw05.step wk (.play p) = (wk, Uw05.ok (-5)) := (if_neg (by rw [hpo]; decide)).trans (if_pos (by show 4 ≤ wk.plays.length; omega))
        exact q.quiet hw (upd_same_keeps nv) nv (by rw [es]) upd_same (by rw [es]; rfl)
      · have es : Uw05.step wk (.play p) = ({ wk with plays := wk.plays ++ [p] }, Uw05.ok (wk.plays.length + 1 : Nat)) := (if_neg (by rw [hpo]; decide)).trans (if_neg (by show ¬ 4 ≤ wk.plays.length; omega))
        refine ⟨_, rfl, a, Cw, dx, _, _, rfl, h1, T.cw, T.nw2, wF2, .inl ⟨rfl, _, SqL.of e0⟩, _, rfl, lp, _, _, rfl, rfl, e0, ?_, ?_⟩
        · rw [List.length_map]
          exact Nat.lt_of_le_of_lt (by omega : _ ≤ 10) (by decide)
        refine ⟨_, rfl, by show 1 ≤ sizeLine; decide, fun v nv => ?_⟩
        have kv := upd_same_keeps (o := .lst [V.int ((wk.plays.length + 1 : Nat) : Int)]) nv
        have nea : a ≠ lp := ne_of h1 e0 (fun z => nomatch z)
        have nec : lc ≠ lp := ne_of h2 e0 (fun z => ref_ne (by omega) z.symm)
        have keep : ∀ b o, H b = some o → b ≠ lp → upd (upd H lp (.lst (as.map V.ref ++ [V.ref t]))) v (.lst [V.int ((wk.plays.length + 1 : Nat) : Int)]) b = some o := fun b o e n => kv _ _ (by rw [upd_ne n]; exact e)
        have plk : ∀ (a' r' : Addr) (p' : Play), PlayAt Cp H a' p' r' → PlayAt Cp (upd (upd H lp (.lst (as.map V.ref ++ [V.ref t]))) v (.lst [V.int ((wk.plays.length + 1 : Nat) : Int)])) a' p' r' := fun a' r' p' ⟨dp', q1, q2⟩ =>
          ⟨dp', keep _ _ q1 (ne_of q1 e0 (fun z => nomatch z)), keep _ _ q2 (ne_of q2 e0 (fun z => ref_ne (by omega) z.symm))⟩
        refine q _ v lc lp ?_ (fun b o e _ _ n => keep b o e n) (.inl rfl) (.inl rfl) (upd_none nv) ?_
        · rw [es]
          refine ⟨dx, keep _ _ h1 nea, keep _ _ h2 nec, as ++ [t], ?_, ?_, fun i b p' i1 i2 => ?_⟩
          · rw [List.map_append]
            exact kv _ _ upd_same
          · show (as ++ [t]).length = (wk.plays ++ [p]).length + 1
            rw [List.length_append, List.length_append, hlen]; rfl
          · have efull : Wp.full { wk with plays := wk.plays ++ [p] } = Wp.full wk ++ [p] := rfl
            rw [efull] at i2
            by_cases hi : i < as.length
            · rw [List.getElem?_append_left hi] at i1
              rw [List.getElem?_append_left (by rw [← el]; exact hi)] at i2
              obtain ⟨r', q1, q2⟩ := e1 i b p' i1 i2
              exact ⟨r', plk _ _ _ q1, q2⟩
            · rw [List.getElem?_append_right (by omega)] at i1
              rw [List.getElem?_append_right (by rw [← el]; omega), ← el] at i2
              have hi2 : i - as.length = 0 := by
                have := (List.getElem?_eq_some_iff.mp i1).1
                simp at this
                omega
              rw [hi2] at i1 i2
              have eb : t = b := by simpa using i1
              have ep : p = p' := by simpa using i2
              subst eb ep
              exact ⟨r, plk _ _ _ hp, hrc, hry⟩
        · rw [upd_same, es]; rfl

/-! ### is_bill -/
def billOk (wk : Week) (b : List Nat) : Bool := !decide (b.length ≠ wk.nights.length ∨ (b.all fun k => decide (k ≤ wk.plays.length)) = false)
def spIsBill (C Cp : Addr) : Sp := fun vs H Q _ => ∃ (a lc lp y l : Addr) (wk : Week) (b : List Nat), vs = [.ref a, .ref l] ∧ WeekAt C Cp H a wk lc lp y ∧ H l = some (.lst (iv b)) ∧ Q (.bl (billOk wk b)) H
theorem scIsBill : FnScope ["self", "bill"] ["self", "bill"] (defScope sIsBill) := ⟨rfl, rfl, rfl, by decide +kernel, rfl, by decide +kernel, by decide +kernel⟩
theorem all_lt {b : List Nat} {m : Int} {n : Nat} (h0 : b.map (fun k : Nat => (k : Int)) = [] → m = 0) (h1 : b.map (fun k : Nat => (k : Int)) ≠ [] → m ∈ b.map (fun k : Nat => (k : Int)) ∧ ∀ y ∈ b.map (fun k : Nat => (k : Int)), y ≤ m) :
    (b.all fun k => decide (k ≤ n)) = decide (m < ((n + 1 : Nat) : Int)) := by
  cases b with
  | nil =>
    rw [h0 rfl, decide_eq_true (by omega)]
    rfl
  | cons x r =>
    obtain ⟨hm, hx⟩ := h1 (by simp)
    rw [all_max hm hx n]
    refine Bool.eq_iff_iff.mpr ?_
    rw [decide_eq_true_eq, decide_eq_true_eq]
    omega
theorem ok_isBill (F : Fun K "is_bill" "Week.is_bill" sIsBill f fd) (T : Txt K mg Cp Cr Co Cs Cw) : FnOk P w K mg base CX0 1 f fd ["self", "bill"] (spIsBill Cw Cp) := by
  refine F.ok scIsBill (fun vs H Q E h => ?_) (fun cdv A outer s H vs Q E hr h => ⟨_,
    pss_one (ps_ret (pe_and (pe_cmpR op_eq (pe_callB call_len_seq (by rfl) T.zlen PySem.boot_len (pa_cons (pv 1) pa_nil)) (pe_callB call_len_seq (by rfl) T.zlen PySem.boot_len (pa_cons (pe_fld (pv 0) rfl) pa_nil)) (nomark _))
      (pe_one (pe_cmpR op_lt (pe_callBK (cr_maxD0 rfl (hu64 hr)) (by rfl) T.zmax (by decide +kernel) (pa_cons (pv 1) pa_nil) (pk_cons pe_int pk_nil)) (pe_callB call_len_seq (by rfl) T.zlen PySem.boot_len (pa_cons (pe_fld (pv 0) rfl) pa_nil)) (nomark _))))), ?_⟩)
  · obtain ⟨a, lc, lp, y, l, wk, b, rfl, _⟩ := h
    rfl
  · obtain ⟨a, lc, lp, y, l, wk, b, rfl, hw, hl, q⟩ := h
    obtain ⟨dx, h1, h2, as, e0, el, _⟩ := id hw
    have hlen : as.length = wk.plays.length + 1 := el
    refine ⟨_, rfl, l, _, rfl, .inl (SqL.of hl), _, rfl, a, Cw, dx, _, _, rfl, h1, T.cw, T.nw1, wF1, lc, _, rfl, .inl (SqL.of h2), rfl, ?_⟩
    rw [iv_length, iv_length]
    refine ⟨_, rfl, dcase (fun c => ?_) fun c => ?_⟩
    · have cl : b.length = wk.nights.length := vint_inj c
      refine ⟨_, rfl, l, b.map (fun k : Nat => (k : Int)), 0, rfl, rfl, SqL.of (by rw [← iv_ints]; exact hl), fun m m0 m1 => ?_⟩
      refine ⟨_, rfl, a, Cw, dx, _, _, rfl, h1, T.cw, T.nw2, wF2, lp, _, rfl, .inl (SqL.of e0), _, _, rfl, rfl, ?_⟩
      rw [List.length_map, hlen]
      show Q (.bl (decide (m < ((wk.plays.length + 1 : Nat) : Int)))) H
      rw [← all_lt m0 m1]
      have e : billOk wk b = (b.all fun k => decide (k ≤ wk.plays.length)) := by
        unfold billOk
        cases hb : (b.all fun k => decide (k ≤ wk.plays.length)) with
        | true => rw [decide_eq_false (by rintro (z | z); exact z cl; cases z)]; rfl
        | false => rw [decide_eq_true (.inr rfl)]; rfl
      rw [← e]; exact q
    · have cl : b.length ≠ wk.nights.length := fun z => c (by rw [z])
      have e : billOk wk b = false := by unfold billOk; rw [decide_eq_true (.inl cl)]; rfl
      rw [e] at q
      exact q

/-! ### night -/
def spNight (C Cp : Addr) : Sp := fun vs H Q _ => ∃ (a lc lp y : Addr) (wk : Week) (i n : Nat), vs = [.ref a, .int i, .int n] ∧ WeekAt C Cp H a wk lc lp y ∧ WPost C Cp a lc lp y wk H (.night i n) Q
theorem scNight : FnScope ["self", "place", "come", "before"] ["self", "place", "come"] (defScope sNight) := ⟨rfl, rfl, rfl, by decide +kernel, rfl, by decide +kernel, by decide +kernel⟩
theorem ok_night (F : Fun K "night" "Week.night" sNight f fd) (T : Txt K mg Cp Cr Co Cs Cw) : FnOk P w K mg base CX0 1 f fd ["self", "place", "come"] (spNight Cw Cp) := by
  refine F.ok scNight (fun vs H Q E h => ?_) (fun cdv A outer s H vs Q E hr h => ⟨_,
    pss_cons (ps_if (pt_cmpR op_ge (pv 1) (pe_callB call_len_seq (by rfl) T.zlen PySem.boot_len (pa_cons (pe_fld (pv 0) rfl) pa_nil)) (nomark _)) (pss_one (ps_ret (pe_lst (pa_cons (pe_un un_neg pe_int) pa_nil)))) pss_nil)
    (pss_cons (ps_if (pt_cmpR op_gt (pv 2) (pe_k T.kCome) (nomark _)) (pss_one (ps_ret (pe_lst (pa_cons (pe_un un_neg pe_int) pa_nil)))) pss_nil)
    (pss_cons (ps_set (i := 3) scNight.nd rfl (.inl rfl) (pe_ix ix_list (pe_fld (pv 0) rfl) (pv 1) (fun _ _ => rfl)))
    (pss_cons (ps_asg (pv 2) (pg_sub (pe_fld (pv 0) rfl) (pv 1) set_list))
    (pss_one (ps_ret (pe_lst (pa_cons (pv 3) pa_nil))))))), ?_⟩)
  · obtain ⟨a, lc, lp, y, wk, i, n, rfl, _⟩ := h
    rfl
  · obtain ⟨a, lc, lp, y, wk, i, n, rfl, hw, q⟩ := h
    obtain ⟨dx, h1, h2, as, e0, el, e1⟩ := id hw
    have hlen : as.length = wk.plays.length + 1 := el
    refine ⟨_, rfl, _, rfl, a, Cw, dx, _, _, rfl, h1, T.cw, T.nw1, wF1, lc, _, rfl, .inl (SqL.of h2), _, _, rfl, rfl, _, rfl, dcase (fun c => ?_) fun c => ?_⟩
    · rw [iv_length] at c
      refine ⟨2, rfl, by show 1 ≤ sizeLine; decide, fun v nv => ?_⟩
      have es : Uw05.step wk (.night i n) = (wk, Uw05.ok (-2)) := if_pos (by omega)
      exact q.quiet hw (upd_same_keeps nv) nv (by rw [es]) upd_same (by rw [es]; rfl)
    rw [iv_length] at c
    refine ⟨_, rfl, _, _, rfl, rfl, _, rfl, dcase (fun c2 => ?_) fun c2 => ?_⟩
    · refine ⟨1, rfl, by show 1 ≤ sizeLine; decide, fun v nv => ?_⟩
      have es : Uw05.step wk (.night i n) = (wk, Uw05.ok (-1)) := (if_neg (by omega)).trans (if_pos (by show 300 < n; omega))
      exact q.quiet hw (upd_same_keeps nv) nv (by rw [es]) upd_same (by rw [es]; rfl)
    have il : i < wk.nights.length := by omega
    have es : Uw05.step wk (.night i n) = ({ wk with nights := wk.nights.set i n }, Uw05.ok (wk.nights.getD i 0 : Nat)) := (if_neg (by omega)).trans (if_neg (by show ¬ 300 < n; omega))
    refine ⟨_, rfl, a, Cw, dx, _, _, rfl, h1, T.cw, T.nw1, wF1, _, rfl, lc, _, _, _, rfl, rfl, SqL.of h2, atI_nat (iv_get (get_some il)), ?_⟩
    refine ⟨_, rfl, _, rfl, a, Cw, dx, _, _, rfl, h1, T.cw, T.nw1, wF1, _, rfl, lc, _, _, i, rfl, rfl, h2, ixn_nat (by rw [iv_length]; exact il), ?_⟩
    rw [iv_set]
    refine ⟨_, rfl, by show 1 ≤ sizeLine; decide, fun v nv => ?_⟩
    have kv := upd_same_keeps (o := .lst [V.int ((wk.nights.getD i 0 : Nat) : Int)]) nv
    have nea : a ≠ lc := ne_of h1 h2 (fun z => nomatch z)
    have nep : lp ≠ lc := ne_of e0 h2 (ref_ne (by omega))
    have keep : ∀ b o, H b = some o → b ≠ lc → upd (upd H lc (.lst (iv (wk.nights.set i n)))) v (.lst [V.int ((wk.nights.getD i 0 : Nat) : Int)]) b = some o := fun b o e n => kv _ _ (by rw [upd_ne n]; exact e)
    refine q _ v lc lp ?_ (fun b o e _ n _ => keep b o e n) (.inl rfl) (.inl rfl) (upd_none nv) ?_
    · rw [es]
      refine ⟨dx, keep _ _ h1 nea, kv _ _ upd_same, as, keep _ _ e0 nep, el, fun j b p i1 i2 => ?_⟩
      obtain ⟨r, ⟨dp, q1, q2⟩, nr⟩ := e1 j b p i1 i2
      exact ⟨r, ⟨dp, keep _ _ q1 (ne_of q1 h2 (fun z => nomatch z)), keep _ _ q2 nr.1⟩, nr⟩
    · rw [upd_same, es]; rfl

/-! ### drop -/
def spDrop (C Cp : Addr) : Sp := fun vs H Q _ => ∃ (a lc lp y : Addr) (wk : Week) (k : Nat), vs = [.ref a, .int k] ∧ WeekAt C Cp H a wk lc lp y ∧ Wp.WeekOk wk ∧ WPost C Cp a lc lp y wk H (.drop k) Q
theorem scDrop : FnScope ["self", "number"] ["self", "number"] (defScope sDrop) := ⟨rfl, rfl, rfl, by decide +kernel, rfl, by decide +kernel, by decide +kernel⟩
theorem ok_drop (F : Fun K "drop" "Week.drop" sDrop f fd) (T : Txt K mg Cp Cr Co Cs Cw) : FnOk P w K mg base CX0 1 f fd ["self", "number"] (spDrop Cw Cp) := by
  refine F.ok scDrop (fun vs H Q E h => ?_) (fun cdv A outer s H vs Q E hr h => ⟨_,
    pss_cons (ps_if (pt_not (pt_chain op_le op_lt pe_int (pv 1) (pe_callB call_len_seq (by rfl) T.zlen PySem.boot_len (pa_cons (pe_fld (pv 0) rfl) pa_nil)))) (pss_one (ps_ret (pe_lst (pa_cons (pe_un un_neg pe_int) pa_nil)))) pss_nil)
    (pss_cons (ps_expr (pe_bm PySem.F.plainAttrs_list PySem.F.slot_list_pop PySem.F.type_list_pop mt_popAt (pe_fld (pv 0) rfl) (pa_cons (pv 1) pa_nil)))
    (pss_one (ps_ret (pe_lst (pa_cons (pe_op op_sub (pe_callB call_len_seq (by rfl) T.zlen PySem.boot_len (pa_cons (pe_fld (pv 0) rfl) pa_nil)) pe_int) pa_nil))))), ?_⟩)
  · obtain ⟨a, lc, lp, y, wk, k, rfl, _⟩ := h
    rfl
  · obtain ⟨a, lc, lp, y, wk, k, rfl, hw, hok, q⟩ := h
    obtain ⟨dx, h1, h2, as, e0, el, e1⟩ := id hw
    have hlen : as.length = wk.plays.length + 1 := el
    have p4 := hok.p4
    have bad : (k < 1 ∨ wk.plays.length < k) → ∀ v, H v = none → Q (.ref v) (upd H v (.lst [.int (-2)])) := fun c v nv => by
      have es : Uw05.step wk (.drop k) = (wk, Uw05.ok (-2)) := if_pos c
      exact q.quiet hw (upd_same_keeps nv) nv (by rw [es]) upd_same (by rw [es]; rfl)
    refine ⟨_, rfl, _, _, rfl, rfl, _, rfl, dcase (fun c => ?_) fun c => ⟨_, rfl, iteT ⟨2, rfl, by show 1 ≤ sizeLine; decide, fun v nv => bad (.inl (by omega)) v nv⟩⟩⟩
    refine ⟨_, rfl, a, Cw, dx, _, _, rfl, h1, T.cw, T.nw2, wF2, lp, _, rfl, .inl (SqL.of e0), ?_⟩
    rw [List.length_map, hlen]
    refine ⟨_, _, rfl, rfl, ?_⟩
    refine ⟨_, rfl, ?_⟩
    by_cases c2 : ((k : Nat) : Int) < ((wk.plays.length + 1 : Nat) : Int)
    · rw [decide_eq_true c2]
      refine iteF ?_
      have es : Uw05.step wk (.drop k) = ({ wk with plays := wk.plays.eraseIdx (k - 1) }, Uw05.ok (wk.plays.length - 1 : Nat)) := if_neg (by omega)
      have kl : k < as.length := by omega
      have hget : (as.map V.ref)[k]? = some (V.ref as[k]) := by rw [List.getElem?_map, List.getElem?_eq_getElem kl]; rfl
      refine ⟨_, rfl, a, Cw, dx, _, _, rfl, h1, T.cw, T.nw2, wF2, .inl ⟨rfl, _, SqL.of e0⟩, _, rfl, lp, _, _, k, _, rfl, rfl, e0, by omega, by omega, ?_, hget, ?_⟩
      · rw [List.length_map, seqIndex_of (by omega) (by omega)]
        rfl
      have nea : a ≠ lp := ne_of h1 e0 (fun z => nomatch z)
      have nec : lc ≠ lp := ne_of h2 e0 (fun z => ref_ne (by omega) z.symm)
      refine ⟨_, rfl, a, Cw, dx, _, _, rfl, by rw [upd_ne nea]; exact h1, T.cw, T.nw2, wF2, lp, _, rfl, .inl (SqL.of upd_same), _, _, rfl, rfl, by show 1 ≤ sizeLine; decide, fun v nv => ?_⟩
      have kv := upd_same_keeps (o := .lst [V.int ((((as.map V.ref).eraseIdx k).length : Nat) - 1)]) nv
      have keep : ∀ b o, H b = some o → b ≠ lp → upd (upd H lp (.lst ((as.map V.ref).eraseIdx k))) v (.lst [V.int ((((as.map V.ref).eraseIdx k).length : Nat) - 1)]) b = some o := fun b o e n => kv _ _ (by rw [upd_ne n]; exact e)
      refine q _ v lc lp ?_ (fun b o e _ _ n => keep b o e n) (.inl rfl) (.inl rfl) (upd_none nv) ?_
      · rw [es]
        have efull : Wp.full { wk with plays := wk.plays.eraseIdx (k - 1) } = (Wp.full wk).eraseIdx k := by
          obtain ⟨j, rfl⟩ : ∃ j, k = j + 1 := ⟨k - 1, by omega⟩
          rfl
        refine ⟨dx, keep _ _ h1 nea, keep _ _ h2 nec, as.eraseIdx k, ?_, ?_, fun i b p i1 i2 => ?_⟩
        · rw [← map_erase]
          exact kv _ _ upd_same
        · rw [efull, List.length_eraseIdx, List.length_eraseIdx, el]
        · rw [efull] at i2
          rw [List.getElem?_eraseIdx] at i1 i2
          have fin : ∃ j : Nat, as[j]? = some b ∧ (Wp.full wk)[j]? = some p := by
            by_cases hik : i < k
            · rw [if_pos hik] at i1 i2; exact ⟨i, i1, i2⟩
            · rw [if_neg hik] at i1 i2; exact ⟨i + 1, i1, i2⟩
          obtain ⟨j, j1, j2⟩ := fin
          obtain ⟨r, ⟨dp, q1, q2⟩, nr⟩ := e1 j b p j1 j2
          exact ⟨r, ⟨dp, keep _ _ q1 (ne_of q1 e0 (fun z => nomatch z)), keep _ _ q2 (ne_of q2 e0 (fun z => ref_ne (by omega) z.symm))⟩, nr⟩
      · rw [upd_same, es]
        refine congrArg (fun z => some (HO.lst z)) ?_
        show [V.int _] = [V.int ((wk.plays.length - 1 : Nat) : Int)]
        rw [List.length_eraseIdx, List.length_map, hlen, if_pos (by omega)]
        refine congrArg (fun z => [V.int z]) ?_
        omega
    · rw [decide_eq_false c2]
      exact iteT ⟨2, rfl, by show 1 ≤ sizeLine; decide, fun v nv => bad (.inr (by omega)) v nv⟩
end
end Wd

/-! The defs of week.py: best, check. -/
namespace Wd
open PySem PySem.Spec PyProof.Rows L2 Wr Wh
open Uw05 (Best)
section
variable {P : Program} {w : World} {K : PySem.W.Frag} {mg : Str → Option Value} {base : Heap} {Cp Cr Co Cs Cw : Addr} {f : Addr} {fd : FuncData}
theorem lt_full {wk : Week} {b : List Nat} (hx : ∀ x ∈ b, x ≤ wk.plays.length) : ∀ k ∈ b, k < (Wp.full wk).length := fun k hk => Nat.lt_succ_of_le (hx k hk)

/-! ### check -/
def spCheck (C Cp : Addr) : Sp := fun vs H Q _ => ∃ (a lc lp y l : Addr) (wk : Week) (b : List Nat), vs = [.ref a, .ref l] ∧ WeekAt C Cp H a wk lc lp y ∧ Wp.WeekOk wk ∧ H l = some (.lst (iv b)) ∧ WPost C Cp a lc lp y wk H (.check b) Q
theorem scCheck : FnScope ["self", "bill", "wrong"] ["self", "bill"] (defScope sCheck) := ⟨rfl, rfl, rfl, by decide +kernel, rfl, by decide +kernel, by decide +kernel⟩
theorem ok_check {fI fW fL fR : Addr} {dI dW dL dR : FuncData} (F : Fun K "check" "Week.check" sCheck f fd) (T : Txt K mg Cp Cr Co Cs Cw)
    (I : Mb K Cw "is_bill" fI dI ["self", "bill"]) (FI : FnOk P w K mg base CX0 1 fI dI ["self", "bill"] (spIsBill Cw Cp))
    (W : Cb K mg "first_wrong" fW dW ["plays", "bill"]) (FW : FnOk P w K mg base CX0 2 fW dW ["plays", "bill"] (spWrong fw Cp))
    (L : Cb K mg "with_length" fL dL ["row"]) (FL : FnOk P w K mg base CX0 1 fL dL ["row"] spWithLen)
    (R : Cb K mg "reckoning" fR dR ["come", "plays", "bill"]) (FR : FnOk P w K mg base CX0 3 fR dR ["come", "plays", "bill"] (spReck Cp)) :
    FnOk P w K mg base CX0 4 f fd ["self", "bill"] (spCheck Cw Cp) := by
  refine F.ok scCheck (fun vs H Q E h => ?_) (fun cdv A outer s H vs Q E hr h => ⟨_,
    have h1 : Room 1 _ := hr.mono (by decide)
    pss_cons (ps_if (pt_not (pt_truth (pe_meth (pv 0) T.cw I.m FI h1 I.b .nil pass0 (pa_cons (pv 1) pa_nil)) (fun _ => rfl))) (pss_one (ps_ret (pe_lst (pa_cons (pe_un un_neg pe_int) pa_nil)))) pss_nil)
    (pss_cons (ps_set (i := 2) scCheck.nd rfl (.inl rfl) (pe_call FW (hr.mono (by decide)) rfl W.g W.k W.b .nil pass0 (pa_cons (pe_fld (pv 0) rfl) (pa_cons (pv 1) pa_nil))))
    (pss_cons (ps_if (pt_truth (pv 2) (fun _ => rfl)) (pss_one (ps_ret (pe_op op_cat (pe_lst (pa_cons pe_int pa_nil)) (pe_call FL h1 rfl L.g L.k L.b .nil pass0 (pa_cons (pv 2) pa_nil))))) pss_nil)
    (pss_one (ps_ret (pe_op op_cat (pe_lst (pa_cons pe_int pa_nil)) (pe_call FR hr rfl R.g R.k R.b .nil pass0 (pa_cons (pe_fld (pv 0) rfl) (pa_cons (pe_fld (pv 0) rfl) (pa_cons (pv 1) pa_nil))))))))), ?_⟩)
  · obtain ⟨a, lc, lp, y, l, wk, b, rfl, _⟩ := h
    rfl
  · obtain ⟨a, lc, lp, y, l, wk, b, rfl, hw, hok, hl, q⟩ := h
    obtain ⟨dx, h1, h2, h3'⟩ := id hw
    have h3 := h3'.one
    refine ⟨_, rfl, a, dx, _, rfl, h1, f2_no (by decide +kernel), _, rfl, a, lc, lp, y, l, wk, b, rfl, hw, hl, _, rfl, ?_⟩
    by_cases c : b.length ≠ wk.nights.length ∨ (b.all fun k => decide (k ≤ wk.plays.length)) = false
    · have e : billOk wk b = false := by unfold billOk; rw [decide_eq_true c]; rfl
      rw [e]
      refine iteT ⟨1, rfl, by show 1 ≤ sizeLine; decide, fun p np => ?_⟩
      have es : Uw05.step wk (.check b) = (wk, Uw05.ok (-1)) := if_pos c
      exact q.quiet hw (upd_same_keeps np) np (by rw [es]) upd_same (by rw [es]; rfl)
    · have e : billOk wk b = true := by unfold billOk; rw [decide_eq_false c]; rfl
      rw [e]
      refine iteF ?_
      have hb : b.length = wk.nights.length := Classical.byContradiction fun z => c (.inl z)
      have hall : (b.all fun k => decide (k ≤ wk.plays.length)) = true := by
        cases z : (b.all fun k => decide (k ≤ wk.plays.length)) with
        | true => rfl
        | false => exact absurd (.inr z) c
      have hx : ∀ x ∈ b, x ≤ wk.plays.length := fun x h => of_decide_eq_true (List.all_eq_true.mp hall x h)
      have n6 := hok.n6
      have es : Uw05.step wk (.check b) = (wk, match wk.wrong b with
        | none => ⟨1, Uw05.tell wk b⟩
        | some x => ⟨0, [[x.1, x.2]]⟩) := if_neg c
      refine ⟨_, rfl, a, Cw, dx, _, _, rfl, h1, T.cw, T.nw2, wF2, _, rfl, lp, lc, l, Wp.full wk, b, rfl, h3, hl, by omega, lt_full hx, fun H1 p1 k1 n1 e1 => ?_⟩
      refine ⟨_, rfl, _, .inl ⟨_, SqL.of e1, rfl⟩, ?_⟩
      rw [fw_wrong n6 hb hx] at e1 ⊢
      cases hwr : wk.wrong b with
      | some x =>
        rw [hwr] at e1 es
        refine iteT ⟨by show 1 ≤ sizeLine; decide, fun p2 n2 => ?_⟩
        have k2 : Same H1 (upd H1 p2 (.lst [.int 0])) := upd_same_keeps n2
        refine ⟨_, rfl, p1, _, rfl, k2 _ _ e1, by show 2 ≤ 1000000; decide, fun H3 p3 k3 n3 e3 => ?_⟩
        refine ⟨p2, p3, _, _, rfl, rfl, k3 _ _ upd_same, e3, by show 1 + 3 ≤ sizeLine; decide, fun p4 n4 => ?_⟩
        have kk : Same H H3 := (k1.trans k2).trans k3
        refine q.quiet hw (kk.trans (upd_same_keeps n4)) (kk.free n4) (by rw [es]) upd_same ?_
        rw [es]
        rfl
      | none =>
        rw [hwr] at e1 es
        refine iteF ⟨by show 1 ≤ sizeLine; decide, fun p2 n2 => ?_⟩
        have k2 : Same H1 (upd H1 p2 (.lst [.int 1])) := upd_same_keeps n2
        have kk := k1.trans k2
        refine ⟨_, rfl, a, Cw, dx, _, _, rfl, kk _ _ h1, T.cw, T.nw1, wF1, _, rfl, a, Cw, dx, _, _, rfl, kk _ _ h1, T.cw, T.nw2, wF2, _, rfl, lc, lp, lc, l, wk.nights, Wp.full wk, b, rfl, kk _ _ h2, h3.same kk, kk _ _ hl, by omega, by omega, lt_full hx, full_plays hok, fun H3 p3 k3 n3 e3 => ?_⟩
        have tl : (iv (told wk.nights (Wp.full wk) b)).length ≤ 1000 := by
          rw [iv_length]
          unfold told
          rw [List.length_append, List.length_append, List.length_cons, List.length_cons, took_length]
          show _ + 3 ≤ _
          omega
        refine ⟨p2, p3, _, _, rfl, rfl, k3 _ _ upd_same, e3, sz _ (by show 1 + _ ≤ _; omega), fun p4 n4 => ?_⟩
        have kk3 : Same H H3 := kk.trans k3
        refine q.quiet hw (kk3.trans (upd_same_keeps n4)) (kk3.free n4) (by rw [es]) upd_same ?_
        rw [es, out_eq, tell_told hx]
        rfl

/-! ### best -/
structure MkS (P : Program) (w : World) (K : PySem.W.Frag) (mg : Str → Option Value) (base : Heap) (Cs f : Addr) (fd : FuncData) : Prop where
  m : Mk K Cs f
  F : FnOk P w K mg base CX0 1 f fd ["self", "come", "plays"] (spSearchInit P w Cs)
  b : Binds K fd ["self", "come", "plays"] []
def spBest (C Cp : Addr) : Sp := fun vs H Q _ => ∃ (a lc lp y : Addr) (wk : Week), vs = [.ref a] ∧ WeekAt C Cp H a wk lc lp y ∧ Wp.WeekOk wk ∧ WPost C Cp a lc lp y wk H .best Q
theorem scBest : FnScope ["self", "found"] ["self"] (defScope sBest) := ⟨rfl, rfl, rfl, by decide +kernel, rfl, by decide +kernel, by decide +kernel⟩
theorem ok_best {fS fW fL fR : Addr} {dS dW dL dR : FuncData} (F : Fun K "best" "Week.best" sBest f fd) (T : Txt K mg Cp Cr Co Cs Cw) (M : MkS P w K mg base Cs fS dS)
    (W : Mb K Cs "whole_week" fW dW ["self"]) (FW : FnOk P w K mg base CX0 25 fW dW ["self"] (spWhole P w Cs Cp Co))
    (L : Cb K mg "with_length" fL dL ["row"]) (FL : FnOk P w K mg base CX0 1 fL dL ["row"] spWithLen)
    (R : Cb K mg "reckoning" fR dR ["come", "plays", "bill"]) (FR : FnOk P w K mg base CX0 3 fR dR ["come", "plays", "bill"] (spReck Cp)) :
    FnOk P w K mg base CX0 26 f fd ["self"] (spBest Cw Cp) := by
  refine F.ok scBest (fun vs H Q E h => ?_) (fun cdv A outer s H vs Q E hr h => ⟨_,
    have h1 : Room 1 _ := hr.mono (by decide)
    pss_cons (ps_set (i := 1) scBest.nd rfl (.inl rfl) (pe_meth0 (pe_make M.m M.F (hr.mono (by decide)) rfl T.gs M.b .nil pass0 (pa_cons (pe_fld (pv 0) rfl) (pa_cons (pe_fld (pv 0) rfl) pa_nil))) T.cs W.m FW hr W.b .nil pass0))
    (pss_cons (ps_if (pt_cmpR op_eq (pe_fld (pv 1) rfl) pe_int (nomark _)) (pss_one (ps_ret (pe_lst (pa_cons pe_int pa_nil)))) pss_nil)
    (pss_one (ps_ret (pe_op op_cat (pe_op op_cat (pe_lst (pa_cons (pe_fld (pv 1) rfl) pa_nil)) (pe_call FL h1 rfl L.g L.k L.b .nil pass0 (pa_cons (pe_lst (pa_cons (pe_fld (pv 1) rfl) pa_nil)) pa_nil)))
      (pe_call FR (hr.mono (by decide)) rfl R.g R.k R.b .nil pass0 (pa_cons (pe_fld (pv 0) rfl) (pa_cons (pe_fld (pv 0) rfl) (pa_cons (pe_fld (pv 1) rfl) pa_nil)))))))), ?_⟩)
  · obtain ⟨a, lc, lp, y, wk, rfl, _⟩ := h
    rfl
  · obtain ⟨a, lc, lp, y, wk, rfl, hw, hok, q⟩ := h
    obtain ⟨dx, h1, h2, h3'⟩ := id hw
    have h3 := h3'.one
    have n6 := hok.n6
    have es : Uw05.step wk .best = (wk, match wk.best with
      | some x => ⟨x.left, [x.many] :: Uw05.tell wk x.bill⟩
      | none => ⟨0, []⟩) := rfl
    rw [Wp.best_is n6] at es
    refine ⟨_, rfl, a, Cw, dx, _, _, rfl, h1, T.cw, T.nw1, wF1, _, rfl, a, Cw, dx, _, _, rfl, h1, T.cw, T.nw2, wF2, fun x dxs nx nd ne => ?_⟩
    refine ⟨x, dxs, _, _, rfl, upd_same, fun d ndd hlow => ⟨rfl, ?_⟩⟩
    have k1 : Same H (upd (upd H dxs (.own x)) x (.ins Cs dxs [])) := by
      have := made (H := H) (fs := []) (C := Cs) nx nd ne
      rw [upd_upd] at this
      exact this
    have k2 : Same H (upd (upd (upd (upd H dxs (.own x)) x (.ins Cs dxs [])) d (KnO P w d [])) x (.ins Cs dxs (f3 "come" (.ref lc) "plays" (.ref lp) "known" (.ref d)))) := fun b o e => by
      have nb : b ≠ x := ne_of_none e nx
      rw [upd_ne nb]
      exact (upd_same_keeps ndd) _ _ (k1 _ _ e)
    have dnx : d ≠ x := fun e => by rw [e, upd_same] at ndd; cases ndd
    have nd0 : H d = none := k1.free ndd
    have S : SearchAt P w Cs Cp Co (upd (upd (upd (upd H dxs (.own x)) x (.ins Cs dxs [])) d (KnO P w d [])) x (.ins Cs dxs (f3 "come" (.ref lc) "plays" (.ref lp) "known" (.ref d)))) x wk.nights (Wp.full wk) lc lp d :=
      ⟨⟨dxs, upd_same⟩, k2 _ _ h2, h3.same k2, [], ⟨by rw [upd_ne dnx]; exact upd_same, hlow, List.nodup_nil, fun y hy => absurd hy List.not_mem_nil⟩, fun y hy => absurd hy List.not_mem_nil⟩
    refine ⟨x, dxs, _, rfl, upd_same, f3_no (by decide +kernel), x, lc, lp, d, wk.nights, Wp.full wk, rfl, S, ⟨n6, full_plays hok⟩, fun H1 o fr ho => ?_⟩
    have k3 : Same H H1 := fun b y e => fr _ _ (k2 _ _ e) (ne_of_none e nd0)
    obtain ⟨dxo, rb, ho1, ho2⟩ := ho
    have w1 : (f3 "left" (V.int (Wp.look wk.nights (Wp.full wk) wk.nights.length 0 0 (Wp.zeros (Wp.full wk))).left) "ways" (V.int ((Wp.look wk.nights (Wp.full wk) wk.nights.length 0 0 (Wp.zeros (Wp.full wk))).many : Nat)) "bill" (V.ref rb)).lookup ("ways" : Str) = some (.int ((Wp.look wk.nights (Wp.full wk) wk.nights.length 0 0 (Wp.zeros (Wp.full wk))).many : Nat)) := f3_2 (by decide +kernel)
    have hbest := Wp.best_is n6
    generalize Wp.look wk.nights (Wp.full wk) wk.nights.length 0 0 (Wp.zeros (Wp.full wk)) = B at ho1 ho2 w1 es hbest
    refine ⟨_, rfl, o, Co, dxo, _, _, rfl, ho1, T.co, T.no2, w1, rfl, _, rfl, dcase (fun c => ?_) fun c => ?_⟩
    · have c' : B.many = 0 := vint_inj (b := 0) c
      rw [Wp.opt_pos c'] at es
      refine ⟨by show 1 ≤ sizeLine; decide, fun p np => ?_⟩
      exact q.quiet hw (k3.trans (upd_same_keeps np)) (k3.free np) (by rw [es]) upd_same (by rw [es]; rfl)
    · have c' : ¬ B.many = 0 := fun z => c (by rw [z]; rfl)
      rw [Wp.opt_neg c'] at es hbest
      obtain ⟨hb, hx⟩ := Wp.best_bill hbest
      refine ⟨_, rfl, o, Co, dxo, _, _, rfl, ho1, T.co, T.no1, oF1, by show 1 ≤ sizeLine; decide, fun p1 n1 => ?_⟩
      have k4 : Same H1 (upd H1 p1 (.lst [.int B.left])) := upd_same_keeps n1
      refine ⟨_, rfl, o, Co, dxo, _, _, rfl, k4 _ _ ho1, T.co, T.no2, w1, by show 1 ≤ sizeLine; decide, fun p2 n2 => ?_⟩
      have k5 : Same (upd H1 p1 (.lst [.int B.left])) (upd (upd H1 p1 (.lst [.int B.left])) p2 (.lst [.int (B.many : Nat)])) := upd_same_keeps n2
      refine ⟨p2, _, rfl, upd_same, by show 1 ≤ 1000000; decide, fun H3 p3 k6 n3 e3 => ?_⟩
      refine ⟨p1, p3, _, _, rfl, rfl, k6 _ _ (k5 _ _ upd_same), e3, by show 1 + 2 ≤ sizeLine; decide, fun p4 n4 => ?_⟩
      have k7 : Same H3 (upd H3 p4 (.lst ([.int B.left] ++ (.int (1 : Nat) :: [.int (B.many : Nat)])))) := upd_same_keeps n4
      have kk : Same H1 (upd H3 p4 (.lst ([.int B.left] ++ (.int (1 : Nat) :: [.int (B.many : Nat)])))) := ((k4.trans k5).trans k6).trans k7
      have kkH := k3.trans kk
      refine ⟨_, rfl, a, Cw, dx, _, _, rfl, kkH _ _ h1, T.cw, T.nw1, wF1, _, rfl, a, Cw, dx, _, _, rfl, kkH _ _ h1, T.cw, T.nw2, wF2, _, rfl, o, Co, dxo, _, _, rfl, kk _ _ ho1, T.co, T.no3, oF3, lc, lp, lc, rb, wk.nights, Wp.full wk, B.bill, rfl, kkH _ _ h2, h3.same kkH, kk _ _ ho2, by omega, by omega, lt_full hx, full_plays hok, fun H5 p5 k8 n5 e5 => ?_⟩
      have tl : (iv (told wk.nights (Wp.full wk) B.bill)).length ≤ 1000 := by
        rw [iv_length]
        unfold told
        rw [List.length_append, List.length_append, List.length_cons, List.length_cons, took_length]
        show _ + 3 ≤ _
        omega
      refine ⟨p4, p5, _, _, rfl, rfl, k8 _ _ upd_same, e5, sz _ (by show (1 + 2) + _ ≤ _; omega), fun p6 n6' => ?_⟩
      have kk3 : Same H H5 := kkH.trans k8
      refine q.quiet hw (kk3.trans (upd_same_keeps n6')) (kk3.free n6') (by rw [es]) upd_same ?_
      rw [es]
      show _ = (Uw05Neutral.out ⟨B.left, [B.many] :: Uw05.tell wk B.bill⟩).map V.int
      rw [out_best hx]
      rfl
end
end Wd

/-! The calls as they lie in the list, and what is due for them. -/
namespace We
open Uw05

def casts (n : List Nat) : List Int := n.map fun k : Nat => (k : Int)
def yesI (b : Bool) : Int := if b = true then 1 else 0
def enc : Call → List Int
  | .begins n => 0 :: (n.length : Int) :: casts n
  | .play p => 1 :: (p.set : Int) :: (p.strike : Int) :: yesI p.runs :: (p.least : Int) :: (p.most : Int) :: (p.brings.length : Int) :: casts p.brings
  | .best => [2]
  | .check b => 3 :: (b.length : Int) :: casts b
  | .night i n => [4, (i : Int), (n : Int)]
  | .drop k => [5, (k : Int)]
def few : Call → Prop
  | .begins n => n.length ≤ 20
  | .play p => p.brings.length ≤ 20
  | .check b => b.length ≤ 20
  | _ => True
def tellAll : Week → List Call → List Int
  | _, [] => []
  | w, c :: r => ((Uw05Neutral.out (step w c).2).length : Int) :: Uw05Neutral.out (step w c).2 ++ tellAll (step w c).1 r
theorem casts_toNat : ∀ {x : List Int}, (x.all Uw05Neutral.nat) = true → casts (x.map Int.toNat) = x
  | [], _ => rfl
  | a :: r, h => by
    rw [List.all_cons, Bool.and_eq_true] at h
    have ha : (0 : Int) ≤ a := by
      have := h.1
      unfold Uw05Neutral.nat at this
      rw [Bool.and_eq_true] at this
      exact of_decide_eq_true this.1
    show (((a.toNat : Nat) : Int)) :: casts (r.map Int.toNat) = a :: r
    rw [casts_toNat h.2, Int.toNat_of_nonneg ha]
theorem nat_pos {a : Int} (h : Uw05Neutral.nat a = true) : ((a.toNat : Nat) : Int) = a := by
  unfold Uw05Neutral.nat at h
  rw [Bool.and_eq_true] at h
  exact Int.toNat_of_nonneg (of_decide_eq_true h.1)
theorem row_some {r x t : List Int} (h : PyFlat.row r = some (x, t)) : r = (x.length : Int) :: x ++ t := by
  cases r with
  | nil => cases h
  | cons n s =>
    unfold PyFlat.row at h
    dsimp only at h
    by_cases c : 0 ≤ n ∧ n.toNat ≤ s.length
    · rw [if_pos c] at h
      injection h with h
      injection h with h1 h2
      subst h1 h2
      rw [List.length_take, Nat.min_eq_left c.2, Int.toNat_of_nonneg c.1, List.cons_append, List.take_append_drop]
    · rw [if_neg c] at h; cases h
theorem rows0 {r t : List Int} {xs : List (List Int)} (h : PyFlat.rows 0 r = some (xs, t)) : xs = [] ∧ r = t := by
  unfold PyFlat.rows at h
  injection h with h
  injection h with h1 h2
  exact ⟨h1.symm, h2⟩
theorem rows1 {r t : List Int} {xs : List (List Int)} (h : PyFlat.rows 1 r = some (xs, t)) : ∃ x, xs = [x] ∧ r = (x.length : Int) :: x ++ t := by
  unfold PyFlat.rows at h
  cases e : PyFlat.row r with
  | none => rw [e] at h; cases h
  | some p =>
    obtain ⟨x, s⟩ := p
    rw [e] at h
    dsimp only at h
    cases e2 : PyFlat.rows 0 s with
    | none => rw [e2] at h; cases h
    | some q =>
      obtain ⟨ys, u⟩ := q
      rw [e2] at h
      injection h with h
      injection h with h1 h2
      obtain ⟨rfl, rfl⟩ := rows0 e2
      subst h1 h2
      exact ⟨x, rfl, row_some e⟩
theorem call_eq {p : Int} {r t : List Int} {c : List (List Int)} {n k : Nat} (hs : PyUw05.shape p = some (n, k)) (h : PyFlat.call PyUw05.shape (p :: r) = some (c, t)) :
    n ≤ r.length ∧ ∃ xs, PyFlat.rows k (r.drop n) = some (xs, t) ∧ c = (p :: r.take n) :: xs := by
  unfold PyFlat.call at h
  dsimp only at h
  rw [hs] at h
  dsimp only at h
  by_cases hl : r.length < n
  · rw [if_pos hl] at h; cases h
  · rw [if_neg hl] at h
    cases e : PyFlat.rows k (r.drop n) with
    | none => rw [e] at h; cases h
    | some q =>
      obtain ⟨xs, u⟩ := q
      rw [e] at h
      injection h with h
      injection h with h1 h2
      subst h1 h2
      exact ⟨by omega, xs, rfl, rfl⟩
theorem of_some {l : List Int} {x : Call} (h : Uw05Neutral.callOf l = some x) : l.all Uw05Neutral.nat = true ∧ Uw05Neutral.callIn (l.map Int.toNat) = some x := by
  unfold Uw05Neutral.callOf at h
  cases e : l.all Uw05Neutral.nat with
  | false => rw [e, if_pos rfl] at h; cases h
  | true => rw [e, if_neg (by decide)] at h; exact ⟨rfl, h⟩
theorem list_in {n : Nat} {l y : List Nat} (h : Uw05Neutral.listIn (n :: l) = some y) : y = l ∧ l.length = n ∧ n ≤ 20 := by
  unfold Uw05Neutral.listIn at h
  dsimp only at h
  by_cases c : n ≤ 20 ∧ l.length = n
  · rw [if_pos c] at h
    injection h with h
    exact ⟨h.symm, c.2, c.1⟩
  · rw [if_neg c] at h; cases h
theorem shape_0 : PyUw05.shape 0 = some (0, 1) := by decide
theorem shape_1 : PyUw05.shape 1 = some (5, 1) := by decide
theorem shape_2 : PyUw05.shape 2 = some (0, 0) := by decide
theorem shape_3 : PyUw05.shape 3 = some (0, 1) := by decide
theorem shape_4 : PyUw05.shape 4 = some (2, 0) := by decide
theorem shape_5 : PyUw05.shape 5 = some (1, 0) := by decide
theorem shape_none {p : Int} (h0 : p ≠ 0) (h1 : p ≠ 1) (h2 : p ≠ 2) (h3 : p ≠ 3) (h4 : p ≠ 4) (h5 : p ≠ 5) : PyUw05.shape p = none := by
  unfold PyUw05.shape
  rw [if_neg h0, if_neg h1, if_neg h2, if_neg h3, if_neg h4, if_neg h5]
/-- one call -/
theorem one {p : Int} {r t : List Int} {c : List (List Int)} {x : Call} (h : PyFlat.call PyUw05.shape (p :: r) = some (c, t)) (hx : Uw05Neutral.callOf ((PyUw05.whole c).headD []) = some x) : p :: r = enc x ++ t ∧ few x := by
  by_cases h0 : p = 0
  · subst h0
    obtain ⟨_, xs, e1, rfl⟩ := call_eq shape_0 h
    obtain ⟨y, rfl, e2⟩ := rows1 e1
    have e2' : r = (y.length : Int) :: y ++ t := e2
    subst e2'
    obtain ⟨a1, a2⟩ := of_some (l := 0 :: (y.length : Int) :: y) hx
    rw [List.all_cons, Bool.and_eq_true, List.all_cons, Bool.and_eq_true] at a1
    have a3 : (Uw05Neutral.listIn (y.length :: y.map Int.toNat)).map Call.begins = some x := a2
    obtain ⟨z, hz, rfl⟩ := Option.map_eq_some_iff.mp a3
    obtain ⟨rfl, _, l20⟩ := list_in hz
    refine ⟨?_, by show (y.map Int.toNat).length ≤ 20; rw [List.length_map]; exact l20⟩
    show _ = 0 :: (((y.map Int.toNat).length : Nat) : Int) :: casts (y.map Int.toNat) ++ t
    rw [casts_toNat a1.2.2, List.length_map]
    rfl
  by_cases h1 : p = 1
  · subst h1
    obtain ⟨hl, xs, e1, rfl⟩ := call_eq shape_1 h
    obtain ⟨y, rfl, e2⟩ := rows1 e1
    obtain ⟨b0, b1, b2, b3, b4, s, rfl⟩ : ∃ b0 b1 b2 b3 b4 s, r = b0 :: b1 :: b2 :: b3 :: b4 :: s := by
      match r, hl with
      | b0 :: b1 :: b2 :: b3 :: b4 :: s, _ => exact ⟨b0, b1, b2, b3, b4, s, rfl⟩
    have e2' : s = (y.length : Int) :: y ++ t := e2
    subst e2'
    obtain ⟨a1, a2⟩ := of_some (l := 1 :: b0 :: b1 :: b2 :: b3 :: b4 :: (y.length : Int) :: y) hx
    simp only [List.all_cons, Bool.and_eq_true] at a1
    obtain ⟨_, n0, n1, n2, n3, n4, _, ny⟩ := a1
    have a3 : (if b2.toNat ≤ 1 then (Uw05Neutral.listIn (y.length :: y.map Int.toNat)).map fun r => Call.play ⟨r, b0.toNat, b1.toNat, b2.toNat == 1, b3.toNat, b4.toNat⟩ else none) = some x := a2
    by_cases hb : b2.toNat ≤ 1
    · rw [if_pos hb] at a3
      obtain ⟨z, hz, rfl⟩ := Option.map_eq_some_iff.mp a3
      obtain ⟨rfl, _, l20⟩ := list_in hz
      refine ⟨?_, by show (y.map Int.toNat).length ≤ 20; rw [List.length_map]; exact l20⟩
      show _ = 1 :: ((b0.toNat : Nat) : Int) :: ((b1.toNat : Nat) : Int) :: yesI (b2.toNat == 1) :: ((b3.toNat : Nat) : Int) :: ((b4.toNat : Nat) : Int) :: (((y.map Int.toNat).length : Nat) : Int) :: casts (y.map Int.toNat) ++ t
      have eb : yesI (b2.toNat == 1) = b2 := by
        have e := nat_pos n2
        unfold yesI
        by_cases q : b2.toNat = 1
        · rw [q]; rw [q] at e; exact e
        · have q0 : b2.toNat = 0 := by omega
          rw [q0]; rw [q0] at e; exact e
      rw [casts_toNat ny, List.length_map, eb, nat_pos n0, nat_pos n1, nat_pos n3, nat_pos n4]
      rfl
    · rw [if_neg hb] at a3; cases a3
  by_cases h2 : p = 2
  · subst h2
    obtain ⟨_, xs, e1, rfl⟩ := call_eq shape_2 h
    obtain ⟨rfl, e2⟩ := rows0 e1
    have e2' : r = t := e2
    subst e2'
    obtain ⟨_, a2⟩ := of_some (l := [2]) hx
    have a3 : some Call.best = some x := a2
    injection a3 with a3
    subst a3
    exact ⟨rfl, trivial⟩
  by_cases h3 : p = 3
  · subst h3
    obtain ⟨_, xs, e1, rfl⟩ := call_eq shape_3 h
    obtain ⟨y, rfl, e2⟩ := rows1 e1
    have e2' : r = (y.length : Int) :: y ++ t := e2
    subst e2'
    obtain ⟨a1, a2⟩ := of_some (l := 3 :: (y.length : Int) :: y) hx
    rw [List.all_cons, Bool.and_eq_true, List.all_cons, Bool.and_eq_true] at a1
    have a3 : (Uw05Neutral.listIn (y.length :: y.map Int.toNat)).map Call.check = some x := a2
    obtain ⟨z, hz, rfl⟩ := Option.map_eq_some_iff.mp a3
    obtain ⟨rfl, _, l20⟩ := list_in hz
    refine ⟨?_, by show (y.map Int.toNat).length ≤ 20; rw [List.length_map]; exact l20⟩
    show _ = 3 :: (((y.map Int.toNat).length : Nat) : Int) :: casts (y.map Int.toNat) ++ t
    rw [casts_toNat a1.2.2, List.length_map]
    rfl
  by_cases h4 : p = 4
  · subst h4
    obtain ⟨hl, xs, e1, rfl⟩ := call_eq shape_4 h
    obtain ⟨rfl, e2⟩ := rows0 e1
    obtain ⟨b0, b1, s, rfl⟩ : ∃ b0 b1 s, r = b0 :: b1 :: s := by
      match r, hl with
      | b0 :: b1 :: s, _ => exact ⟨b0, b1, s, rfl⟩
    have e2' : s = t := e2
    subst e2'
    obtain ⟨a1, a2⟩ := of_some (l := [4, b0, b1]) hx
    simp only [List.all_cons, Bool.and_eq_true] at a1
    have a3 : some (Call.night b0.toNat b1.toNat) = some x := a2
    injection a3 with a3
    subst a3
    refine ⟨?_, trivial⟩
    show _ = [4, ((b0.toNat : Nat) : Int), ((b1.toNat : Nat) : Int)] ++ s
    rw [nat_pos a1.2.1, nat_pos a1.2.2.1]
    rfl
  by_cases h5 : p = 5
  · subst h5
    obtain ⟨hl, xs, e1, rfl⟩ := call_eq shape_5 h
    obtain ⟨rfl, e2⟩ := rows0 e1
    obtain ⟨b0, s, rfl⟩ : ∃ b0 s, r = b0 :: s := by
      match r, hl with
      | b0 :: s, _ => exact ⟨b0, s, rfl⟩
    have e2' : s = t := e2
    subst e2'
    obtain ⟨a1, a2⟩ := of_some (l := [5, b0]) hx
    simp only [List.all_cons, Bool.and_eq_true] at a1
    have a3 : some (Call.drop b0.toNat) = some x := a2
    injection a3 with a3
    subst a3
    refine ⟨?_, trivial⟩
    show _ = [5, ((b0.toNat : Nat) : Int)] ++ s
    rw [nat_pos a1.2.1]
    rfl
  · exfalso
    unfold PyFlat.call at h
    dsimp only at h
    rw [shape_none h0 h1 h2 h3 h4 h5] at h
    cases h
abbrev stepL (s : Week) (c : List (List Int)) : Week × List Int := Uw05Neutral.step s (c.headD [])
theorem parse : ∀ (f : Nat) (l : List Int) (raw : List (List (List Int))), PyFlat.calls PyUw05.shape f l = some raw → (∀ c ∈ raw, (Uw05Neutral.callOf ((PyUw05.whole c).headD [])).isSome = true) →
    ∃ cs : List Call, l = cs.flatMap enc ∧ (∀ c ∈ cs, few c) ∧ ∀ s, PyFlat.told (PyFlat.played stepL s (raw.map PyUw05.whole)) = tellAll s cs
  | f, [], raw, h, _ => by
    have : raw = [] := by
      cases f <;> (unfold PyFlat.calls at h; injection h with h; exact h.symm)
    subst this
    exact ⟨[], rfl, fun c hc => absurd hc List.not_mem_nil, fun s => rfl⟩
  | 0, p :: r, raw, h, _ => by
    unfold PyFlat.calls at h
    cases h
  | f + 1, p :: r, raw, h, hs => by
    unfold PyFlat.calls at h
    cases e : PyFlat.call PyUw05.shape (p :: r) with
    | none => rw [e] at h; cases h
    | some q =>
      obtain ⟨c, t⟩ := q
      rw [e] at h
      dsimp only at h
      cases e2 : PyFlat.calls PyUw05.shape f t with
      | none => rw [e2] at h; cases h
      | some cs' =>
        rw [e2] at h
        injection h with h
        subst h
        obtain ⟨x, hx⟩ := Option.isSome_iff_exists.mp (hs c List.mem_cons_self)
        obtain ⟨cs, h1, h2, h3⟩ := parse f t cs' e2 fun c hc => hs c (List.mem_cons_of_mem _ hc)
        obtain ⟨e3, hf⟩ := one e hx
        refine ⟨x :: cs, ?_, fun y hy => ?_, fun s => ?_⟩
        · rw [e3, List.flatMap_cons, ← h1]
        · rcases List.mem_cons.mp hy with rfl | hy
          · exact hf
          · exact h2 y hy
        · have es : stepL s (PyUw05.whole c) = ((step s x).1, Uw05Neutral.out (step s x).2) := by
            show Uw05Neutral.step s ((PyUw05.whole c).headD []) = _
            unfold Uw05Neutral.step
            rw [hx]
          rw [List.map_cons]
          show PyFlat.told ((stepL s (PyUw05.whole c)).2 :: PyFlat.played stepL (stepL s (PyUw05.whole c)).1 (cs'.map PyUw05.whole)) = _
          rw [es]
          show (((Uw05Neutral.out (step s x).2).length : Int) :: Uw05Neutral.out (step s x).2) ++ PyFlat.told (PyFlat.played stepL (step s x).1 (cs'.map PyUw05.whole)) = _
          rw [h3]
          rfl
/-- **What is asked, and what is due.** -/
theorem due {l : List Int} (h : PyUw05.answers_asked l = true) : ∃ cs : List Call, l = cs.flatMap enc ∧ (∀ c ∈ cs, few c) ∧ PyUw05.answers l = tellAll init cs ∧ (tellAll init cs).length ≤ 10000000 := by
  unfold PyUw05.answers_asked at h
  cases e : PyFlat.calls PyUw05.shape l.length l with
  | none => rw [e] at h; cases h
  | some raw =>
    rw [e] at h
    simp only [Bool.and_eq_true] at h
    obtain ⟨⟨_, ha⟩, hsh⟩ := h
    unfold Uw05Neutral.asked at ha
    simp only [Bool.and_eq_true] at ha
    have hall : ∀ c ∈ raw, (Uw05Neutral.callOf ((PyUw05.whole c).headD [])).isSome = true := fun c hc =>
      List.all_eq_true.mp ha.1 _ (List.mem_map.mpr ⟨PyUw05.whole c, List.mem_map.mpr ⟨c, hc, rfl⟩, rfl⟩)
    obtain ⟨cs, h1, h2, h3⟩ := parse _ _ _ e hall
    have ea : PyUw05.answers l = tellAll init cs := by
      unfold PyUw05.answers PyUw05.calls
      rw [e]
      exact h3 init
    refine ⟨cs, h1, h2, ea, ?_⟩
    unfold PyFlat.short at hsh
    rw [ea] at hsh
    exact of_decide_eq_true hsh
end We

/-! The defs of house.py. -/
namespace Wd
open PySem PySem.Spec PyProof.Rows L2 Wr Wh
open Uw05 (Best)

/-- xs lies in ns from pos on -/
def Lies (ns : List Int) (pos : Nat) (xs : List Int) : Prop := ∃ rest, ns.drop pos = xs ++ rest
theorem Lies.head {ns : List Int} {pos : Nat} {x : Int} {xs : List Int} (h : Lies ns pos (x :: xs)) : ns[pos]? = some x ∧ Lies ns (pos + 1) xs := by
  obtain ⟨rest, e⟩ := h
  constructor
  · have := congrArg (fun l : List Int => l[0]?) e
    simpa [List.getElem?_drop] using this
  · refine ⟨rest, ?_⟩
    rw [← List.drop_drop, e]
    rfl
theorem Lies.all {ns : List Int} {pos : Nat} {xs : List Int} (h : Lies ns pos xs) : (ns.drop pos).take xs.length = xs := by
  obtain ⟨rest, e⟩ := h
  rw [e, List.take_left]
theorem Lies.fits {ns : List Int} {pos : Nat} {xs : List Int} (h : Lies ns pos xs) (hp : pos ≤ ns.length) : pos + xs.length ≤ ns.length := by
  obtain ⟨rest, e⟩ := h
  have := congrArg List.length e
  rw [List.length_drop, List.length_append] at this
  omega
theorem casts_iv (n : List Nat) : (We.casts n).map V.int = iv n := (iv_ints n).symm
theorem casts_length (n : List Nat) : (We.casts n).length = n.length := List.length_map ..

/-- the reader's fields -/
abbrev rdF (l : Addr) (pos : Nat) : List (Str × V) := f2 "line" (V.ref l) "place" (V.int (pos : Nat))
theorem rd_ne_week {C C' dx dx' : Addr} {l lc lp : Addr} {pos : Nat} : HO.ins C dx (rdF l pos) ≠ HO.ins C' dx' (f2 "come" (V.ref lc) "plays" (V.ref lp)) := fun e => by
  injection e with _ _ e
  unfold f2 at e
  injection e with e _
  injection e with e _
  exact absurd e (by decide +kernel)
theorem rd_ne_play {C C' dx dx' : Addr} {l : Addr} {pos : Nat} {v1 v2 v3 v4 v5 v6 : V} : HO.ins C dx (rdF l pos) ≠ HO.ins C' dx' (pF v1 v2 v3 v4 v5 v6) := fun e => by
  injection e with _ _ e
  exact absurd (congrArg List.length e) (by show ¬ 2 = 6; decide)
/-- the line of calls: tracked, apart from the week's lists, or written -/
def LineAt (K : PySem.W.Frag) (H : Hp) (l : Addr) (xs : List V) (lc lp : Addr) : Prop :=
  (Rd H l (.lst xs) ∧ l ≠ lc ∧ l ≠ lp) ∨ ∃ (o : Obj) (its : Array Value) (n : Nat), K.lookup l = some o ∧ o.cls = .type "list" ∧ o.dict = none ∧ o.data = .seq its n ∧ its.size ≤ sizeLine ∧ Vals xs its.toList
section
variable {K : PySem.W.Frag} {H H' : Hp} {l lc lp lc' lp' r a : Addr} {xs : List V}
theorem LineAt.sq (h : LineAt K H l xs lc lp) : SqL K H l xs := by
  rcases h with ⟨h, _⟩ | h
  · exact .inl h
  · exact .inr h
theorem LineAt.next {C C' dx dx' : Addr} {fs fs' : List (Str × V)} (h : LineAt K H l xs lc lp) (hr : H r = some (.ins C dx fs)) (ha : H a = some (.ins C' dx' fs')) (k : ∀ b o, H b = some o → b ≠ r → b ≠ a → b ≠ lc → b ≠ lp → H' b = some o) (hc : lc' = lc ∨ H lc' = none) (hp : lp' = lp ∨ H lp' = none) :
    LineAt K H' l xs lc' lp' := by
  rcases h with ⟨h, n1, n2⟩ | h
  · refine .inl ⟨?_, ?_, ?_⟩
    · rcases h with h | ⟨o, h⟩
      · exact .inl (k _ _ h (ne_of h hr (fun z => nomatch z)) (ne_of h ha (fun z => nomatch z)) n1 n2)
      · exact .inr ⟨o, k _ _ h (ne_of h hr (fun z => nomatch z)) (ne_of h ha (fun z => nomatch z)) n1 n2⟩
    · rcases hc with rfl | hc
      · exact n1
      · rcases h with h | ⟨o, h⟩ <;> exact ne_of_none h hc
    · rcases hp with rfl | hp
      · exact n2
      · rcases h with h | ⟨o, h⟩ <;> exact ne_of_none h hp
  · exact .inr h
theorem LineAt.upd {C dx : Addr} {fs fs' : List (Str × V)} (h : LineAt K H l xs lc lp) (hr : H r = some (.ins C dx fs)) : LineAt K (upd H r (.ins C dx fs')) l xs lc lp := by
  rcases h with ⟨h, n1, n2⟩ | h
  · refine .inl ⟨?_, n1, n2⟩
    rcases h with h | ⟨o, h⟩
    · exact .inl (by rw [upd_ne (ne_of h hr (fun z => nomatch z))]; exact h)
    · exact .inr ⟨o, by rw [upd_ne (ne_of h hr (fun z => nomatch z))]; exact h⟩
  · exact .inr h
theorem WeekAt.read {C Cp Cr dx y : Addr} {wk : Week} {pos : Nat} (h : WeekAt C Cp H a wk lc lp y) (hr : H r = some (.ins Cr dx (rdF l pos))) (k : ∀ b o, H b = some o → b ≠ r → H' b = some o) : WeekAt C Cp H' a wk lc lp y := by
  obtain ⟨dw, h1, h2, as, h3, h4, h5⟩ := h
  refine ⟨dw, k _ _ h1 (ne_of h1 hr rd_ne_week.symm), k _ _ h2 (ne_of h2 hr (fun z => nomatch z)), as, k _ _ h3 (ne_of h3 hr (fun z => nomatch z)), h4, fun i b p i1 i2 => ?_⟩
  obtain ⟨q, ⟨dp, p1, p2⟩, n⟩ := h5 i b p i1 i2
  exact ⟨q, ⟨dp, k _ _ p1 (ne_of p1 hr rd_ne_play.symm), k _ _ p2 (ne_of p2 hr (fun z => nomatch z))⟩, n⟩
end
section
variable {P : Program} {w : World} {K : PySem.W.Frag} {mg : Str → Option Value} {base : Heap} {Cp Cr Co Cs Cw : Addr} {f : Addr} {fd : FuncData}

/-! ### read_play -/
def spReadPlay (Cr Cp : Addr) (K : PySem.W.Frag) : Sp := fun vs H Q _ => ∃ (r l dx : Addr) (pos : Nat) (ns : List Int) (p : Play), vs = [.ref r] ∧ H r = some (.ins Cr dx (rdF l pos)) ∧ SqL K H l (ns.map V.int) ∧ pos ≤ ns.length ∧
  Lies ns pos ((p.set : Int) :: (p.strike : Int) :: yes p.runs :: (p.least : Int) :: (p.most : Int) :: (p.brings.length : Int) :: We.casts p.brings) ∧
  ∀ H' a br, PlayAt Cp H' a p br → H br = none → (∀ b o, H b = some o → b ≠ r → H' b = some o) → H' r = some (.ins Cr dx (rdF l (pos + 6 + p.brings.length))) → Q (.ref a) H'
theorem scReadPlay : FnScope ["reader", "set_up", "strike", "may_run", "least", "most"] ["reader"] (defScope sReadPlay) := ⟨rfl, rfl, rfl, by decide +kernel, rfl, by decide +kernel, by decide +kernel⟩
theorem ok_readPlay {fN fR fP : Addr} {dN dR dP : FuncData} (F : Fun K "read_play" "read_play" sReadPlay f fd) (T : Txt K mg Cp Cr Co Cs Cw) (N : Mb K Cr "number" fN dN ["self"]) (FN : FnOk P w K mg base CX0 1 fN dN ["self"] (spNumber Cr K))
    (R : Mb K Cr "row" fR dR ["self"]) (FR : FnOk P w K mg base CX0 2 fR dR ["self"] (spRow Cr K)) (M : MkP P w K mg base Cp fP dP) :
    FnOk P w K mg base CX0 3 f fd ["reader"] (spReadPlay Cr Cp K) := by
  refine F.ok scReadPlay (fun vs H Q E h => ?_) (fun cdv A outer s H vs Q E hr h => ⟨_,
    have h1 : Room 1 _ := hr.mono (by decide)
    pss_cons (ps_set (i := 1) scReadPlay.nd rfl (.inl rfl) (pe_meth0 (pv 0) T.cr N.m FN h1 N.b .nil pass0))
    (pss_cons (ps_set (i := 2) scReadPlay.nd rfl (.inl rfl) (pe_meth0 (pv 0) T.cr N.m FN h1 N.b .nil pass0))
    (pss_cons (ps_set (i := 3) scReadPlay.nd rfl (.inl rfl) (pe_meth0 (pv 0) T.cr N.m FN h1 N.b .nil pass0))
    (pss_cons (ps_set (i := 4) scReadPlay.nd rfl (.inl rfl) (pe_meth0 (pv 0) T.cr N.m FN h1 N.b .nil pass0))
    (pss_cons (ps_set (i := 5) scReadPlay.nd rfl (.inl rfl) (pe_meth0 (pv 0) T.cr N.m FN h1 N.b .nil pass0))
    (pss_one (ps_ret (pe_make M.m M.F hr rfl T.gp M.b .nil pass0 (pa_cons (pv 1) (pa_cons (pv 2) (pa_cons (pv 3) (pa_cons (pv 4) (pa_cons (pv 5) (pa_cons (pe_meth0 (pv 0) T.cr R.m FR hr R.b .nil pass0) pa_nil))))))))))))), ?_⟩)
  · obtain ⟨r, l, dx, pos, ns, p, rfl, _⟩ := h
    rfl
  · obtain ⟨r, l, dx, pos, ns, p, rfl, h1, h2, hp, hl, q⟩ := h
    obtain ⟨g1, hl1⟩ := hl.head
    obtain ⟨g2, hl2⟩ := hl1.head
    obtain ⟨g3, hl3⟩ := hl2.head
    obtain ⟨g4, hl4⟩ := hl3.head
    obtain ⟨g5, hl5⟩ := hl4.head
    obtain ⟨g6, hl6⟩ := hl5.head
    have hfit := hl.fits hp
    simp only [List.length_cons, casts_length] at hfit
    refine ⟨_, rfl, r, dx, _, rfl, h1, rd_no (by decide +kernel), r, l, dx, pos, ns, _, rfl, h1, h2, g1, ?_⟩
    refine ⟨_, rfl, r, dx, _, rfl, upd_same, rd_no (by decide +kernel), r, l, dx, pos + 1, ns, _, rfl, upd_same, sq_upd h1 h2, g2, ?_⟩
    rw [upd_upd]
    refine ⟨_, rfl, r, dx, _, rfl, upd_same, rd_no (by decide +kernel), r, l, dx, pos + 1 + 1, ns, _, rfl, upd_same, sq_upd h1 h2, g3, ?_⟩
    rw [upd_upd]
    refine ⟨_, rfl, r, dx, _, rfl, upd_same, rd_no (by decide +kernel), r, l, dx, pos + 1 + 1 + 1, ns, _, rfl, upd_same, sq_upd h1 h2, g4, ?_⟩
    rw [upd_upd]
    refine ⟨_, rfl, r, dx, _, rfl, upd_same, rd_no (by decide +kernel), r, l, dx, pos + 1 + 1 + 1 + 1, ns, _, rfl, upd_same, sq_upd h1 h2, g5, ?_⟩
    rw [upd_upd]
    refine ⟨_, rfl, _, rfl, _, rfl, _, rfl, _, rfl, _, rfl, r, dx, _, rfl, upd_same, rd_no (by decide +kernel), r, l, dx, pos + 1 + 1 + 1 + 1 + 1, p.brings.length, ns, rfl, upd_same, sq_upd h1 h2, g6, by omega, fun br nbr => ?_⟩
    rw [upd_upd]
    have eb : ((ns.drop (pos + 1 + 1 + 1 + 1 + 1 + 1)).take p.brings.length).map V.int = iv p.brings := by
      have := hl6.all
      rw [casts_length] at this
      rw [this, casts_iv]
    rw [eb]
    intro x dxx nx nd ne
    refine ⟨x, dxx, _, _, _, _, _, _, rfl, upd_same, rfl, ?_⟩
    have nbr' : H br = none := by
      by_cases e : br = r
      · subst e; rw [upd_same] at nbr; cases nbr
      · rw [upd_ne e] at nbr; exact nbr
    have brr : br ≠ r := fun e => by rw [e, h1] at nbr'; cases nbr'
    have km := made (fs := pF (V.int (p.set : Nat)) (V.int (p.strike : Nat)) (V.int (yes p.runs)) (V.int (p.least : Nat)) (V.int (p.most : Nat)) (V.ref br)) (C := Cp) nx nd ne
    refine q _ x br ⟨dxx, upd_same, km _ _ upd_same⟩ nbr' (fun b o e n => km _ _ ?_) (km _ _ ?_)
    · rw [upd_ne (ne_of_none e nbr'), upd_ne n]
      exact e
    · rw [upd_ne (Ne.symm brr), upd_same]
      
/-! ### answer_next -/
/-- what one call leaves -/
def NPost (C Cp Cr : Addr) (r l dx : Addr) (pos' : Nat) (a lc lp y : Addr) (wk : Week) (H : Hp) (c : Uw05.Call) (Q : VK) : Prop :=
  ∀ (H' : Hp) (p lc' lp' : Addr), H' r = some (.ins Cr dx (rdF l pos')) → WeekAt C Cp H' a (Uw05.step wk c).1 lc' lp' y → (∀ b o, H b = some o → b ≠ r → b ≠ a → b ≠ lc → b ≠ lp → H' b = some o) → (lc' = lc ∨ H lc' = none) → (lp' = lp ∨ H lp' = none) → H p = none →
    H' p = some (.lst ((Uw05Neutral.out (Uw05.step wk c).2).map V.int)) → Q (.ref p) H'
def spNext (C Cp Cr : Addr) (K : PySem.W.Frag) : Sp := fun vs H Q _ => ∃ (r l dx a lc lp y : Addr) (pos : Nat) (ns : List Int) (wk : Week) (c : Uw05.Call), vs = [.ref r, .ref a] ∧ H r = some (.ins Cr dx (rdF l pos)) ∧ SqL K H l (ns.map V.int) ∧ pos ≤ ns.length ∧
  WeekAt C Cp H a wk lc lp y ∧ (∃ o, H y = some o) ∧ Wp.WeekOk wk ∧ We.few c ∧ Lies ns pos (We.enc c) ∧ NPost C Cp Cr r l dx (pos + (We.enc c).length) a lc lp y wk H c Q
theorem npost {C Cp Cr r l dx : Addr} {pos pos' : Nat} {a lc lp y : Addr} {wk : Week} {H H3 : Hp} {c : Uw05.Call} {Q : VK} (q : NPost C Cp Cr r l dx pos' a lc lp y wk H c Q) (hr : H r = some (.ins Cr dx (rdF l pos))) (hw : WeekAt C Cp H a wk lc lp y)
    (k : ∀ b o, H b = some o → b ≠ r → H3 b = some o) (hr3 : H3 r = some (.ins Cr dx (rdF l pos'))) : WPost C Cp a lc lp y wk H3 c Q := fun H' p lc' lp' hw' kk hc hp n e => by
  obtain ⟨dw, h1, h2, as, h3, _, _⟩ := hw
  have free : ∀ b, H3 b = none → H b = none := fun b nb => by
    cases z : H b with
    | none => rfl
    | some o =>
      by_cases e : b = r
      · subst e; rw [hr3] at nb; cases nb
      · rw [k _ _ z e] at nb; cases nb
  refine q H' p lc' lp' (kk _ _ hr3 (ne_of hr h1 rd_ne_week) (ne_of hr h2 (fun z => nomatch z)) (ne_of hr h3 (fun z => nomatch z))) hw' (fun b o e1 n1 n2 n3 n4 => kk _ _ (k _ _ e1 n1) n2 n3 n4) ?_ ?_ (free _ n) e
  · rcases hc with hc | hc
    · exact .inl hc
    · exact .inr (free _ hc)
  · rcases hp with hp | hp
    · exact .inl hp
    · exact .inr (free _ hp)
theorem scNext : FnScope ["reader", "week", "call", "place"] ["reader", "week"] (defScope sNext) := ⟨rfl, rfl, rfl, by decide +kernel, rfl, by decide +kernel, by decide +kernel⟩
structure HelpsN (P : Program) (w : World) (K : PySem.W.Frag) (mg : Str → Option Value) (base : Heap) (Cp Cr Cw fN fR fP f0 f1 f2' f3' f4 f5 : Addr) (dN dR dP d0 d1 d2 d3 d4 d5 : FuncData) : Prop where
  number : Mb K Cr "number" fN dN ["self"]
  numberF : FnOk P w K mg base CX0 1 fN dN ["self"] (spNumber Cr K)
  row : Mb K Cr "row" fR dR ["self"]
  rowF : FnOk P w K mg base CX0 2 fR dR ["self"] (spRow Cr K)
  read : Cb K mg "read_play" fP dP ["reader"]
  readF : FnOk P w K mg base CX0 3 fP dP ["reader"] (spReadPlay Cr Cp K)
  begins : Mb K Cw "begins" f0 d0 ["self", "come"]
  beginsF : FnOk P w K mg base CX0 4 f0 d0 ["self", "come"] (spBegins Cw Cp)
  play : Mb K Cw "play" f1 d1 ["self", "told"]
  playF : FnOk P w K mg base CX0 2 f1 d1 ["self", "told"] (spPlay Cw Cp)
  best : Mb K Cw "best" f2' d2 ["self"]
  bestF : FnOk P w K mg base CX0 26 f2' d2 ["self"] (spBest Cw Cp)
  check : Mb K Cw "check" f3' d3 ["self", "bill"]
  checkF : FnOk P w K mg base CX0 4 f3' d3 ["self", "bill"] (spCheck Cw Cp)
  night : Mb K Cw "night" f4 d4 ["self", "place", "come"]
  nightF : FnOk P w K mg base CX0 1 f4 d4 ["self", "place", "come"] (spNight Cw Cp)
  drop : Mb K Cw "drop" f5 d5 ["self", "number"]
  dropF : FnOk P w K mg base CX0 1 f5 d5 ["self", "number"] (spDrop Cw Cp)
theorem vne {i j : Int} (h : i ≠ j) : ¬ V.int i = V.int j := fun e => h (by injection e)
theorem ok_next {fN fR fP f0 f1 f2' f3' f4 f5 : Addr} {dN dR dP d0 d1 d2 d3 d4 d5 : FuncData} (F : Fun K "answer_next" "answer_next" sNext f fd) (T : Txt K mg Cp Cr Co Cs Cw) (L : HelpsN P w K mg base Cp Cr Cw fN fR fP f0 f1 f2' f3' f4 f5 dN dR dP d0 d1 d2 d3 d4 d5) :
    FnOk P w K mg base CX0 27 f fd ["reader", "week"] (spNext Cw Cp Cr K) := by
  refine F.ok scNext (fun vs H Q E h => ?_) (fun cdv A outer s H vs Q E hr h => ⟨_,
    have h1 : Room 1 _ := hr.mono (by decide)
    have h2 : Room 2 _ := hr.mono (by decide)
    have h3 : Room 3 _ := hr.mono (by decide)
    have h4 : Room 4 _ := hr.mono (by decide)
    pss_cons (ps_set (i := 2) scNext.nd rfl (.inl rfl) (pe_meth0 (pv 0) T.cr L.number.m L.numberF h1 L.number.b .nil pass0))
    (pss_cons (ps_if (pt_cmpR op_eq (pv 2) (pe_k T.kBegins) (nomark _)) (pss_one (ps_ret (pe_meth (pv 1) T.cw L.begins.m L.beginsF h4 L.begins.b .nil pass0 (pa_cons (pe_meth0 (pv 0) T.cr L.row.m L.rowF h2 L.row.b .nil pass0) pa_nil)))) pss_nil)
    (pss_cons (ps_if (pt_cmpR op_eq (pv 2) (pe_k T.kPlay) (nomark _)) (pss_one (ps_ret (pe_meth (pv 1) T.cw L.play.m L.playF h2 L.play.b .nil pass0 (pa_cons (pe_call L.readF h3 rfl L.read.g L.read.k L.read.b .nil pass0 (pa_cons (pv 0) pa_nil)) pa_nil)))) pss_nil)
    (pss_cons (ps_if (pt_cmpR op_eq (pv 2) (pe_k T.kBest) (nomark _)) (pss_one (ps_ret (pe_meth0 (pv 1) T.cw L.best.m L.bestF hr L.best.b .nil pass0))) pss_nil)
    (pss_cons (ps_if (pt_cmpR op_eq (pv 2) (pe_k T.kCheck) (nomark _)) (pss_one (ps_ret (pe_meth (pv 1) T.cw L.check.m L.checkF h4 L.check.b .nil pass0 (pa_cons (pe_meth0 (pv 0) T.cr L.row.m L.rowF h2 L.row.b .nil pass0) pa_nil)))) pss_nil)
    (pss_cons (ps_if (pt_cmpR op_eq (pv 2) (pe_k T.kNight) (nomark _)) (pss_cons (ps_set (i := 3) scNext.nd rfl (.inl rfl) (pe_meth0 (pv 0) T.cr L.number.m L.numberF h1 L.number.b .nil pass0))
      (pss_one (ps_ret (pe_meth (pv 1) T.cw L.night.m L.nightF h1 L.night.b .nil pass0 (pa_cons (pv 3) (pa_cons (pe_meth0 (pv 0) T.cr L.number.m L.numberF h1 L.number.b .nil pass0) pa_nil)))))) pss_nil)
    (pss_cons (ps_if (pt_cmpR op_eq (pv 2) (pe_k T.kDrop) (nomark _)) (pss_one (ps_ret (pe_meth (pv 1) T.cw L.drop.m L.dropF h1 L.drop.b .nil pass0 (pa_cons (pe_meth0 (pv 0) T.cr L.number.m L.numberF h1 L.number.b .nil pass0) pa_nil)))) pss_nil)
    pss_never)))))), ?_⟩)
  · obtain ⟨r, l, dx, a, lc, lp, y, pos, ns, wk, c, rfl, _⟩ := h
    rfl
  · obtain ⟨r, l, dx, a, lc, lp, y, pos, ns, wk, c, rfl, h1, h2, hp, hw, ⟨oy, hy⟩, hok, hfew, hl, q⟩ := h
    obtain ⟨dw, w1, w2, as, w3, _, _⟩ := id hw
    have nra : a ≠ r := ne_of w1 h1 rd_ne_week.symm
    have nn : (f2 "come" (V.ref lc) "plays" (V.ref lp)).lookup ("begins" : Str) = none := f2_no (by decide +kernel)
    have hfit := hl.fits hp
    have k1 : ∀ (n : Nat) (b : Addr) (o : HO), H b = some o → b ≠ r → upd H r (.ins Cr dx (rdF l n)) b = some o := fun n b o e nb => by rw [upd_ne nb]; exact e
    have wk1 : ∀ n : Nat, WeekAt Cw Cp (upd H r (.ins Cr dx (rdF l n))) a wk lc lp y := fun n => WeekAt.read hw h1 (k1 n)
    have w1' : ∀ n : Nat, upd H r (.ins Cr dx (rdF l n)) a = some (.ins Cw dw (f2 "come" (V.ref lc) "plays" (V.ref lp))) := fun n => k1 n _ _ w1 nra
    have first : ∀ (z : Int) (xs : List Int), We.enc c = z :: xs → ns[pos]? = some z ∧ Lies ns (pos + 1) xs := fun z xs e => by rw [e] at hl; exact hl.head
    -- a row, read into a new list
    have rowk : ∀ (n : Nat) (p : Addr) (ys : List V), H p = none → ∀ b o, H b = some o → b ≠ r → upd (upd H r (.ins Cr dx (rdF l n))) p (.lst ys) b = some o := fun n p ys np b o e nb => by
      rw [upd_ne (ne_of_none e np), upd_ne nb]; exact e
    have rowr : ∀ (n : Nat) (p : Addr) (ys : List V), H p = none → upd (upd H r (.ins Cr dx (rdF l n))) p (.lst ys) r = some (.ins Cr dx (rdF l n)) := fun n p ys np => by
      rw [upd_ne (ne_of_none h1 np)]; exact upd_same
    have hy2 : ∀ (n : Nat) (p : Addr) (ys : List V), H p = none → ∃ o, upd (upd H r (.ins Cr dx (rdF l n))) p (.lst ys) y = some o := fun n p ys np => by
      by_cases e : y = r
      · exact ⟨_, by rw [e]; exact rowr n p ys np⟩
      · exact ⟨oy, rowk n p ys np _ _ hy e⟩
    cases c with
    | begins n =>
      obtain ⟨g0, l1⟩ := first 0 _ rfl
      obtain ⟨g1, l2⟩ := l1.head
      have el : (We.enc (.begins n)).length = 2 + n.length := by show (We.casts n).length + 1 + 1 = _; rw [casts_length]; omega
      rw [el] at q hfit
      refine ⟨_, rfl, r, dx, _, rfl, h1, rd_no (by decide +kernel), r, l, dx, pos, ns, 0, rfl, h1, h2, g0, ?_⟩
      refine ⟨_, rfl, rfl, _, rfl, dcase (fun _ => ?_) fun z => absurd rfl z⟩
      refine ⟨_, rfl, a, dw, _, rfl, w1' _, nn, _, rfl, r, dx, _, rfl, upd_same, rd_no (by decide +kernel), r, l, dx, pos + 1, n.length, ns, rfl, upd_same, sq_upd h1 h2, g1, by omega, fun p np => ?_⟩
      have np' : H p = none := by
        by_cases e : p = r
        · subst e; rw [upd_same] at np; cases np
        · rw [upd_ne e] at np; exact np
      have eb : ((ns.drop (pos + 1 + 1)).take n.length).map V.int = iv n := by
        have := l2.all
        rw [casts_length] at this
        rw [this, casts_iv]
      rw [upd_upd, eb, show pos + 1 + 1 + n.length = pos + (2 + n.length) from by omega]
      refine ⟨a, lc, lp, y, p, wk, n, rfl, WeekAt.read hw h1 (rowk _ p _ np'), hy2 _ p _ np', upd_same, npost q h1 hw (rowk _ p _ np') (rowr _ p _ np')⟩
    | play p =>
      obtain ⟨g0, l1⟩ := first 1 _ rfl
      have el : (We.enc (.play p)).length = 1 + (6 + p.brings.length) := by show (We.casts p.brings).length + 1 + 1 + 1 + 1 + 1 + 1 + 1 = _; rw [casts_length]; omega
      rw [el] at q hfit
      refine ⟨_, rfl, r, dx, _, rfl, h1, rd_no (by decide +kernel), r, l, dx, pos, ns, 1, rfl, h1, h2, g0, ?_⟩
      refine ⟨_, rfl, rfl, _, rfl, dcase (fun z => absurd z (vne (by decide))) fun _ => ?_⟩
      refine ⟨_, rfl, rfl, _, rfl, dcase (fun _ => ?_) fun z => absurd rfl z⟩
      refine ⟨_, rfl, a, dw, _, rfl, w1' _, f2_no (by decide +kernel), _, rfl, r, l, dx, pos + 1, ns, p, rfl, upd_same, sq_upd h1 h2, by omega, l1, fun H' t br hpl nbr kk hr' => ?_⟩
      have kkH : ∀ b o, H b = some o → b ≠ r → H' b = some o := fun b o e nb => kk _ _ (k1 _ _ _ e nb) nb
      have nbr' : H br = none := by
        by_cases e : br = r
        · subst e; rw [upd_same] at nbr; cases nbr
        · rw [upd_ne e] at nbr; exact nbr
      have hf : p.brings.length ≤ 20 := hfew
      rw [show pos + 1 + 6 + p.brings.length = pos + (1 + (6 + p.brings.length)) from by omega] at hr'
      refine ⟨a, lc, lp, y, t, br, wk, p, rfl, WeekAt.read hw h1 kkH, hok, hpl, (ne_of_none w2 nbr').symm, (ne_of_none hy nbr').symm, by omega, npost q h1 hw kkH hr'⟩
    | best =>
      obtain ⟨g0, l1⟩ := first 2 _ rfl
      refine ⟨_, rfl, r, dx, _, rfl, h1, rd_no (by decide +kernel), r, l, dx, pos, ns, 2, rfl, h1, h2, g0, ?_⟩
      refine ⟨_, rfl, rfl, _, rfl, dcase (fun z => absurd z (vne (by decide))) fun _ => ?_⟩
      refine ⟨_, rfl, rfl, _, rfl, dcase (fun z => absurd z (vne (by decide))) fun _ => ?_⟩
      refine ⟨_, rfl, rfl, _, rfl, dcase (fun _ => ?_) fun z => absurd rfl z⟩
      exact ⟨_, rfl, a, dw, _, rfl, w1' _, f2_no (by decide +kernel), a, lc, lp, y, wk, rfl, wk1 _, hok, npost q h1 hw (k1 _) upd_same⟩
    | check n =>
      obtain ⟨g0, l1⟩ := first 3 _ rfl
      obtain ⟨g1, l2⟩ := l1.head
      have el : (We.enc (.check n)).length = 2 + n.length := by show (We.casts n).length + 1 + 1 = _; rw [casts_length]; omega
      rw [el] at q hfit
      refine ⟨_, rfl, r, dx, _, rfl, h1, rd_no (by decide +kernel), r, l, dx, pos, ns, 3, rfl, h1, h2, g0, ?_⟩
      refine ⟨_, rfl, rfl, _, rfl, dcase (fun z => absurd z (vne (by decide))) fun _ => ?_⟩
      refine ⟨_, rfl, rfl, _, rfl, dcase (fun z => absurd z (vne (by decide))) fun _ => ?_⟩
      refine ⟨_, rfl, rfl, _, rfl, dcase (fun z => absurd z (vne (by decide))) fun _ => ?_⟩
      refine ⟨_, rfl, rfl, _, rfl, dcase (fun _ => ?_) fun z => absurd rfl z⟩
      refine ⟨_, rfl, a, dw, _, rfl, w1' _, f2_no (by decide +kernel), _, rfl, r, dx, _, rfl, upd_same, rd_no (by decide +kernel), r, l, dx, pos + 1, n.length, ns, rfl, upd_same, sq_upd h1 h2, g1, by omega, fun p np => ?_⟩
      have np' : H p = none := by
        by_cases e : p = r
        · subst e; rw [upd_same] at np; cases np
        · rw [upd_ne e] at np; exact np
      have eb : ((ns.drop (pos + 1 + 1)).take n.length).map V.int = iv n := by
        have := l2.all
        rw [casts_length] at this
        rw [this, casts_iv]
      rw [upd_upd, eb, show pos + 1 + 1 + n.length = pos + (2 + n.length) from by omega]
      refine ⟨a, lc, lp, y, p, wk, n, rfl, WeekAt.read hw h1 (rowk _ p _ np'), hok, upd_same, npost q h1 hw (rowk _ p _ np') (rowr _ p _ np')⟩
    | night i n =>
      obtain ⟨g0, l1⟩ := first 4 _ rfl
      obtain ⟨g1, l2⟩ := l1.head
      obtain ⟨g2, l3⟩ := l2.head
      refine ⟨_, rfl, r, dx, _, rfl, h1, rd_no (by decide +kernel), r, l, dx, pos, ns, 4, rfl, h1, h2, g0, ?_⟩
      refine ⟨_, rfl, rfl, _, rfl, dcase (fun z => absurd z (vne (by decide))) fun _ => ?_⟩
      refine ⟨_, rfl, rfl, _, rfl, dcase (fun z => absurd z (vne (by decide))) fun _ => ?_⟩
      refine ⟨_, rfl, rfl, _, rfl, dcase (fun z => absurd z (vne (by decide))) fun _ => ?_⟩
      refine ⟨_, rfl, rfl, _, rfl, dcase (fun z => absurd z (vne (by decide))) fun _ => ?_⟩
      refine ⟨_, rfl, rfl, _, rfl, dcase (fun _ => ?_) fun z => absurd rfl z⟩
      refine ⟨_, rfl, r, dx, _, rfl, upd_same, rd_no (by decide +kernel), r, l, dx, pos + 1, ns, _, rfl, upd_same, sq_upd h1 h2, g1, ?_⟩
      rw [upd_upd]
      refine ⟨_, rfl, a, dw, _, rfl, w1' _, f2_no (by decide +kernel), _, rfl, _, rfl, r, dx, _, rfl, upd_same, rd_no (by decide +kernel), r, l, dx, pos + 1 + 1, ns, _, rfl, upd_same, sq_upd h1 h2, g2, ?_⟩
      rw [upd_upd]
      exact ⟨a, lc, lp, y, wk, i, n, rfl, wk1 _, npost q h1 hw (k1 _) upd_same⟩
    | drop k =>
      obtain ⟨g0, l1⟩ := first 5 _ rfl
      obtain ⟨g1, l2⟩ := l1.head
      refine ⟨_, rfl, r, dx, _, rfl, h1, rd_no (by decide +kernel), r, l, dx, pos, ns, 5, rfl, h1, h2, g0, ?_⟩
      refine ⟨_, rfl, rfl, _, rfl, dcase (fun z => absurd z (vne (by decide))) fun _ => ?_⟩
      refine ⟨_, rfl, rfl, _, rfl, dcase (fun z => absurd z (vne (by decide))) fun _ => ?_⟩
      refine ⟨_, rfl, rfl, _, rfl, dcase (fun z => absurd z (vne (by decide))) fun _ => ?_⟩
      refine ⟨_, rfl, rfl, _, rfl, dcase (fun z => absurd z (vne (by decide))) fun _ => ?_⟩
      refine ⟨_, rfl, rfl, _, rfl, dcase (fun z => absurd z (vne (by decide))) fun _ => ?_⟩
      refine ⟨_, rfl, rfl, _, rfl, dcase (fun _ => ?_) fun z => absurd rfl z⟩
      refine ⟨_, rfl, a, dw, _, rfl, w1' _, f2_no (by decide +kernel), _, rfl, r, dx, _, rfl, upd_same, rd_no (by decide +kernel), r, l, dx, pos + 1, ns, _, rfl, upd_same, sq_upd h1 h2, g1, ?_⟩
      rw [upd_upd]
      exact ⟨a, lc, lp, y, wk, k, rfl, wk1 _, hok, npost q h1 hw (k1 _) upd_same⟩
end
end Wd

/-! answers. -/
namespace Wd
open PySem PySem.Spec PyProof.Rows L2 Wr Wh
open Uw05 (Best)
theorem enc_pos (c : Uw05.Call) : 0 < (We.enc c).length := by cases c <;> exact Nat.succ_pos _
theorem tell_cons (wk : Week) (c : Uw05.Call) (r : List Uw05.Call) : We.tellAll wk (c :: r) = ((Uw05Neutral.out (Uw05.step wk c).2).length : Int) :: Uw05Neutral.out (Uw05.step wk c).2 ++ We.tellAll (Uw05.step wk c).1 r := rfl
theorem lies_of {ns : List Int} {pos : Nat} {c : Uw05.Call} {r : List Uw05.Call} (h : ns.drop pos = (c :: r).flatMap We.enc) : Lies ns pos (We.enc c) ∧ ns.drop (pos + (We.enc c).length) = r.flatMap We.enc := by
  rw [List.flatMap_cons] at h
  refine ⟨⟨_, h⟩, ?_⟩
  rw [← List.drop_drop, h, List.drop_left]
section
variable {P : Program} {w : World} {K : PySem.W.Frag} {mg : Str → Option Value} {base : Heap} {Cp Cr Co Cs Cw : Addr} {f : Addr} {fd : FuncData}
/-- answers: the line is handed in, what is due comes out -/
def spAnswers (K : PySem.W.Frag) : Sp := fun vs H Q _ => ∃ (l : Addr) (cs : List Uw05.Call), vs = [.ref l] ∧ SqL K H l ((cs.flatMap We.enc).map V.int) ∧ (∀ c ∈ cs, We.few c) ∧ (We.tellAll Uw05.init cs).length ≤ 10000000 ∧
  ∀ H' p, H' p = some (.lst ((We.tellAll Uw05.init cs).map V.int)) → Q (.ref p) H'
theorem scAnswers : FnScope ["calls", "reader", "week", "answered", "answer"] ["calls"] (defScope sAnswers) := ⟨rfl, rfl, rfl, by decide +kernel, rfl, by decide +kernel, by decide +kernel⟩
structure HelpsA (P : Program) (w : World) (K : PySem.W.Frag) (mg : Str → Option Value) (base : Heap) (Cp Cr Cw fR fW fM fN : Addr) (dR dW dM dN : FuncData) : Prop where
  rMk : Mk K Cr fR
  rF : FnOk P w K mg base CX0 1 fR dR ["self", "line"] (spReaderInit Cr)
  rB : Binds K dR ["self", "line"] []
  wMk : Mk K Cw fW
  wF : FnOk P w K mg base CX0 4 fW dW ["self"] (spWeekInit Cw Cp)
  wB : Binds K dW ["self"] []
  more : Mb K Cr "has_more" fM dM ["self"]
  moreF : FnOk P w K mg base CX0 1 fM dM ["self"] (spHasMore Cr K)
  next : Cb K mg "answer_next" fN dN ["reader", "week"]
  nextF : FnOk P w K mg base CX0 27 fN dN ["reader", "week"] (spNext Cw Cp Cr K)
/-- the line of calls, apart from the list of answers too -/
def Line3 (K : PySem.W.Frag) (H : Hp) (l : Addr) (xs : List V) (lc lp out : Addr) : Prop :=
  (Rd H l (.lst xs) ∧ l ≠ lc ∧ l ≠ lp ∧ l ≠ out) ∨ ∃ (o : Obj) (its : Array Value) (n : Nat), K.lookup l = some o ∧ o.cls = .type "list" ∧ o.dict = none ∧ o.data = .seq its n ∧ its.size ≤ sizeLine ∧ Vals xs its.toList
theorem Line3.line {K : PySem.W.Frag} {H : Hp} {l : Addr} {xs : List V} {lc lp out : Addr} (h : Line3 K H l xs lc lp out) : LineAt K H l xs lc lp := by
  rcases h with ⟨h, n1, n2, _⟩ | h
  · exact .inl ⟨h, n1, n2⟩
  · exact .inr h
/-- where the loop stands: the calls to come -/
def Wst (K : PySem.W.Frag) (Cw Cp Cr : Addr) (l r a out dx : Addr) (ns due : List Int) (m : Nat) (σ : L2.St) (H : Hp) : Prop :=
  ∃ (rest : List Uw05.Call) (wk : Week) (pos : Nat) (lc lp : Addr) (acc : List Int) (v : Option V), m = rest.length ∧ σ = [some (.ref l), some (.ref r), some (.ref a), some (.ref out), v] ∧ H r = some (.ins Cr dx (rdF l pos)) ∧
    Line3 K H l (ns.map V.int) lc lp out ∧ pos ≤ ns.length ∧ ns.drop pos = rest.flatMap We.enc ∧ WeekAt Cw Cp H a wk lc lp out ∧ Wp.WeekOk wk ∧ (∀ c ∈ rest, We.few c) ∧ H out = some (.lst (acc.map V.int)) ∧ acc ++ We.tellAll wk rest = due ∧ out ≠ lc ∧ out ≠ lp
theorem ok_answers {fR fW fM fN : Addr} {dR dW dM dN : FuncData} (F : Fun K "answers" "answers" sAnswers f fd) (T : Txt K mg Cp Cr Co Cs Cw) (L : HelpsA P w K mg base Cp Cr Cw fR fW fM fN dR dW dM dN) :
    FnOk P w K mg base CX0 28 f fd ["calls"] (spAnswers K) := by
  refine F.ok scAnswers (fun vs H Q E h => ?_) (fun cdv A outer s H vs Q E hr h => ⟨_,
    have h1 : Room 1 _ := hr.mono (by decide)
    pss_cons (ps_set (i := 1) scAnswers.nd rfl (.inl rfl) (pe_make L.rMk L.rF (hr.mono (by decide)) rfl T.gr L.rB .nil pass0 (pa_cons (pv 0) pa_nil)))
    (pss_cons (ps_set (i := 2) scAnswers.nd rfl (.inl rfl) (pe_make0 L.wMk L.wF (hr.mono (by decide)) rfl T.gw L.wB .nil pass0))
    (pss_cons (ps_set (i := 3) scAnswers.nd rfl (.inl rfl) (pe_lst pa_nil))
    (pss_cons (ps_while PassesOwn.never (pt_truth (pe_meth0 (pv 1) T.cr L.more.m L.moreF h1 L.more.b .nil pass0) (fun _ => rfl))
      (pss_cons (ps_set (i := 4) scAnswers.nd rfl (.inl rfl) (pe_call L.nextF hr rfl L.next.g L.next.k L.next.b .nil pass0 (pa_cons (pv 1) (pa_cons (pv 2) pa_nil))))
      (pss_cons (ps_expr (pe_bm PySem.F.plainAttrs_list PySem.F.slot_list_append PySem.F.type_list_append mt_append (pv 3) (pa_cons (pe_callB call_len_seq (by rfl) T.zlen PySem.boot_len (pa_cons (pv 4) pa_nil)) pa_nil)))
      (pss_one (ps_expr (pe_bm PySem.F.plainAttrs_list PySem.F.slot_list_extend PySem.F.type_list_extend mt_extend (pv 3) (pa_cons (pv 4) pa_nil)))))))
    (pss_one (ps_ret (pv 3)))))), ?_⟩)
  · obtain ⟨l, cs, rfl, _⟩ := h
    rfl
  · obtain ⟨l, cs, rfl, hl, hfew, hz, q⟩ := h
    -- Reader(calls)
    refine ⟨_, rfl, fun r dx nr nd ne => ⟨r, dx, _, rfl, upd_same, rfl, ?_⟩⟩
    have k1 : Same H (upd (upd (upd H dx (.own r)) r (.ins Cr dx [])) r (.ins Cr dx (rdF l 0))) := made nr nd ne
    have e1 : upd (upd (upd H dx (.own r)) r (.ins Cr dx [])) r (.ins Cr dx (rdF l 0)) r = some (.ins Cr dx (rdF l 0)) := upd_same
    change tSeq _ _ _ _ (upd (upd (upd H dx (.own r)) r (.ins Cr dx [])) r (.ins Cr dx (rdF l 0)))
    generalize upd (upd (upd H dx (.own r)) r (.ins Cr dx [])) r (.ins Cr dx (rdF l 0)) = H1 at k1 e1
    -- Week()
    intro a dw na ndw new
    have k2 : Same H1 (upd (upd H1 dw (.own a)) a (.ins Cw dw [])) := by
      have := made (H := H1) (fs := []) (C := Cw) na ndw new
      rw [upd_upd] at this
      exact this
    refine ⟨a, dw, rfl, upd_same, fun H2 lc lp hw kk nlc nlp => ⟨rfl, ?_⟩⟩
    have k3 : Same H1 H2 := fun b o e => kk _ _ (k2 _ _ e) (ne_of_none e na)
    have k13 : Same H H2 := k1.trans k3
    have nlc1 : H1 lc = none := k2.free nlc
    have nlp1 : H1 lp = none := k2.free nlp
    -- answered = []
    refine ⟨by show 0 ≤ sizeLine; decide, fun out nout => ?_⟩
    have k4 : Same H2 (upd H2 out (.lst [])) := upd_same_keeps nout
    have hw4 : WeekAt Cw Cp (upd H2 out (.lst [])) a Uw05.init lc lp out := by
      obtain ⟨dx', w1, w2, as, w3, w4, w5⟩ := hw
      exact ⟨dx', k4 _ _ w1, k4 _ _ w2, as, k4 _ _ w3, w4, fun i b p i1 i2 => let ⟨q, ⟨dp, p1, p2⟩, n, _⟩ := w5 i b p i1 i2; ⟨q, ⟨dp, k4 _ _ p1, k4 _ _ p2⟩, n, ne_of_none p2 nout⟩⟩
    obtain ⟨_, ww1, ww2, was, ww3, _, _⟩ := id hw
    have line0 : Line3 K (upd H2 out (.lst [])) l ((cs.flatMap We.enc).map V.int) lc lp out := by
      rcases hl with hl | hl
      · refine .inl ⟨?_, ?_, ?_, ?_⟩
        · rcases hl with hl | ⟨o, hl⟩
          · exact .inl (k4 _ _ (k13 _ _ hl))
          · exact .inr ⟨o, k4 _ _ (k13 _ _ hl)⟩
        · rcases hl with hl | ⟨o, hl⟩ <;> exact ne_of_none (k1 _ _ hl) nlc1
        · rcases hl with hl | ⟨o, hl⟩ <;> exact ne_of_none (k1 _ _ hl) nlp1
        · rcases hl with hl | ⟨o, hl⟩ <;> exact ne_of_none (k13 _ _ hl) nout
      · exact .inr hl
    refine ⟨fun m σ H' => Wst K Cw Cp Cr l r a out dx (cs.flatMap We.enc) (We.tellAll Uw05.init cs) m σ H', ⟨cs.length, cs, Uw05.init, 0, lc, lp, [], none, rfl, rfl, k4 _ _ (k3 _ _ e1), line0, Nat.zero_le _, rfl, hw4, Wp.init_ok, hfew, upd_same, rfl, (ne_of_none ww2 nout).symm, (ne_of_none ww3 nout).symm⟩, ?_⟩
    rintro m σ H' ⟨rest, wk, pos, lc, lp, acc, v, rfl, rfl, hr', hline, hp, hd, hwk, hok, hfw, hout, heq, n1, n2⟩
    refine ⟨_, rfl, r, dx, _, rfl, hr', rd_no (by decide +kernel), r, l, pos, cs.flatMap We.enc, rfl, ⟨dx, hr'⟩, hline.line.sq, _, rfl, ?_⟩
    cases rest with
    | nil =>
      have hlen : (cs.flatMap We.enc).length ≤ pos := by
        have := congrArg List.length hd
        rw [List.length_drop] at this
        have e : (([] : List Uw05.Call).flatMap We.enc).length = 0 := rfl
        omega
      rw [decide_eq_false (by omega)]
      refine iteF ⟨_, rfl, q H' out ?_⟩
      have : acc = We.tellAll Uw05.init cs := by
        rw [← heq]
        show acc = acc ++ []
        rw [List.append_nil]
      rw [← this]; exact hout
    | cons c rest =>
      obtain ⟨hlies, hd'⟩ := lies_of hd
      have hfit := hlies.fits hp
      have hep := enc_pos c
      rw [decide_eq_true (by omega)]
      refine iteT ⟨fun σ' H'' => ∃ m', m' < (c :: rest).length ∧ Wst K Cw Cp Cr l r a out dx (cs.flatMap We.enc) (We.tellAll Uw05.init cs) m' σ' H'', fun σ' H'' h => h, ?_⟩
      obtain ⟨dwk, v1, v2, vas, v3, _, _⟩ := id hwk
      refine ⟨_, rfl, _, rfl, r, l, dx, a, lc, lp, out, pos, cs.flatMap We.enc, wk, c, rfl, hr', hline.line.sq, hp, hwk, ⟨_, hout⟩, hok, hfw c List.mem_cons_self, hlies, fun H3 p lc' lp' hr3 hw3 kk3 hc3 hp3 np ep => ?_⟩
      have nor : out ≠ r := ne_of hout hr' (fun z => nomatch z)
      have noa : out ≠ a := ne_of hout v1 (fun z => nomatch z)
      have hout3 : H3 out = some (.lst (acc.map V.int)) := kk3 _ _ hout nor noa n1 n2
      have npo : p ≠ out := fun e => by rw [e, hout] at np; cases np
      have no1 : out ≠ lc' := by
        rcases hc3 with rfl | h
        · exact n1
        · exact ne_of_none hout h
      have no2 : out ≠ lp' := by
        rcases hp3 with rfl | h
        · exact n2
        · exact ne_of_none hout h
      have hlen : (acc ++ We.tellAll wk (c :: rest)).length ≤ 10000000 := by rw [heq]; exact hz
      rw [tell_cons, List.length_append, List.length_append, List.length_cons] at hlen
      refine ⟨_, rfl, .inl ⟨rfl, _, SqL.of hout3⟩, _, rfl, p, _, rfl, .inl (SqL.of ep), out, _, _, rfl, rfl, hout3, Nat.lt_of_le_of_lt (by rw [List.length_map]; omega : _ ≤ 10000000) (by decide), ?_⟩
      refine ⟨_, rfl, .inl ⟨rfl, _, SqL.of upd_same⟩, _, rfl, out, p, _, _, rfl, rfl, upd_same, by rw [upd_ne npo]; exact ep, ?_, ?_⟩
      · refine sz _ ?_
        rw [List.length_append, List.length_map, List.length_map]
        show acc.length + 1 + _ ≤ _
        omega
      · rw [upd_upd]
        have keep : ∀ ys b o, H3 b = some o → b ≠ out → upd H3 out (.lst ys) b = some o := fun ys b o e n => by rw [upd_ne n]; exact e
        refine ⟨rest.length, Nat.lt_succ_self _, rest, (Uw05.step wk c).1, pos + (We.enc c).length, lc', lp', acc ++ (((Uw05Neutral.out (Uw05.step wk c).2).length : Int) :: Uw05Neutral.out (Uw05.step wk c).2), _, rfl, rfl, keep _ _ _ hr3 nor.symm, ?_, hfit, hd', ?_, Wp.step_ok hok c, fun c' hc' => hfw c' (List.mem_cons_of_mem _ hc'), ?_, ?_, no1, no2⟩
        · rcases hline with ⟨h0, m1, m2, hlo⟩ | h0
          · have h1' : LineAt K H' l ((cs.flatMap We.enc).map V.int) lc lp := .inl ⟨h0, m1, m2⟩
            rcases h1'.next (lc' := lc') (lp' := lp') hr' v1 kk3 hc3 hp3 with ⟨h, m1, m2⟩ | h
            · refine .inl ⟨?_, m1, m2, hlo⟩
              rcases h with h | ⟨o, h⟩
              · exact .inl (keep _ _ _ h hlo)
              · exact .inr ⟨o, keep _ _ _ h hlo⟩
            · exact .inr h
          · exact .inr h0
        · obtain ⟨dwk', x1, x2, xas, x3, x4, x5⟩ := hw3
          refine ⟨dwk', keep _ _ _ x1 noa.symm, keep _ _ _ x2 no1.symm, xas, keep _ _ _ x3 no2.symm, x4, fun i b p' i1 i2 => ?_⟩
          obtain ⟨br, ⟨dp, p1, p2⟩, y1, y2⟩ := x5 i b p' i1 i2
          exact ⟨br, ⟨dp, keep _ _ _ p1 (ne_of p1 hout3 (fun z => nomatch z)), keep _ _ _ p2 y2⟩, y1, y2⟩
        · rw [upd_same]
          refine congrArg (fun z => some (HO.lst z)) ?_
          rw [List.map_append, List.map_cons, List.length_map, List.append_assoc]
          rfl
        · rw [← heq, tell_cons, List.append_assoc]
end
end Wd

/-! The end: what the top has left, and the statement. -/
namespace Wz
open PySem PySem.Spec PyProof.Rows L2 Wr Wh Wd

theorem all_mk {P : Program} {w : World} {K : PySem.W.Frag} {h : Heap} {mg : Str → Option Value} {fa : Addr} (X : K.In h) (G : h.Ns mainGlobals mg) (hfa : mg "answers" = some (.ref fa))
    {Cp Cr Co Cs Cw fPI fPT fPK fRI fRM fRN fRR fBF fBN fBP fBT fBC fBW fBR fBL fOI fSI fSW fSO fSL fSE fSC fQN fQJ fQM fWI fWB fWP fWX fWC fWL fWN fWD fHA fHD fAA fAN fAR : Addr} {odPI anPI odPT anPT odPK anPK odRI anRI odRM anRM odRN anRN odRR anRR odBF anBF odBN anBN odBP anBP odBT anBT odBC anBC odBW anBW odBR anBR odBL anBL odOI anOI odSI anSI odSW anSW odSO anSO odSL anSL odSE anSE odSC anSC odQN anQN odQJ anQJ odQM anQM odWI anWI odWB anWB odWP anWP odWX anWX odWC anWC odWL anWL odWN anWN odWD anWD odHA anHA odHD anHD odAA anAA odAN anAN odAR anAR : Option Addr} {slPI slPT slPK slRI slRM slRN slRR slBF slBN slBP slBT slBC slBW slBR slBL slOI slSI slSW slSO slSL slSE slSC slQN slQJ slQM slWI slWB slWP slWX slWC slWL slWN slWD slHA slHD slAA slAN slAR : Array (Option Value)}
    {ocPI kVPI dcPI pmPI cdPI ctPI ocPT kVPT dcPT pmPT cdPT ctPT ocPK kVPK dcPK pmPK cdPK ctPK ocRI kVRI dcRI pmRI cdRI ctRI ocRM kVRM dcRM pmRM cdRM ctRM ocRN kVRN dcRN pmRN cdRN ctRN ocRR kVRR dcRR pmRR cdRR ctRR ocBF kVBF dcBF pmBF cdBF ctBF ocBN kVBN dcBN pmBN cdBN ctBN ocBP kVBP dcBP pmBP cdBP ctBP ocBT kVBT dcBT pmBT cdBT ctBT ocBC kVBC dcBC pmBC cdBC ctBC ocBW kVBW dcBW pmBW cdBW ctBW ocBR kVBR dcBR pmBR cdBR ctBR ocBL kVBL dcBL pmBL cdBL ctBL ocOI kVOI dcOI pmOI cdOI ctOI ocSI kVSI dcSI pmSI cdSI ctSI ocSW kVSW dcSW pmSW cdSW ctSW ocSO kVSO dcSO pmSO cdSO ctSO ocSL kVSL dcSL pmSL cdSL ctSL ocSE kVSE dcSE pmSE cdSE ctSE ocSC kVSC dcSC pmSC cdSC ctSC ocQN kVQN dcQN pmQN cdQN ctQN ocQJ kVQJ dcQJ pmQJ cdQJ ctQJ ocQM kVQM dcQM pmQM cdQM ctQM ocWI kVWI dcWI pmWI cdWI ctWI ocWB kVWB dcWB pmWB cdWB ctWB ocWP kVWP dcWP pmWP cdWP ctWP ocWX kVWX dcWX pmWX cdWX ctWX ocWC kVWC dcWC pmWC cdWC ctWC ocWL kVWL dcWL pmWL cdWL ctWL ocWN kVWN dcWN pmWN cdWN ctWN ocWD kVWD dcWD pmWD cdWD ctWD ocHA kVHA dcHA pmHA cdHA ctHA ocHD kVHD dcHD pmHD cdHD ctHD ocAA kVAA dcAA pmAA cdAA ctAA ocAN kVAN dcAN pmAN cdAN ctAN ocAR kVAR dcAR pmAR cdAR ctAR : Value} {tkMoney tkBrings tkTwice tkSeldom tkOften tkNights tkCome tkPlays tkBegins tkPlay tkBest tkCheck tkNight tkDrop : Tok}
    (g_p : PySem.W.nsIn K mainGlobals "Play" = some (some (.ref Cp)))
    (g_r : PySem.W.nsIn K mainGlobals "Reader" = some (some (.ref Cr)))
    (g_o : PySem.W.nsIn K mainGlobals "Outlook" = some (some (.ref Co)))
    (g_s : PySem.W.nsIn K mainGlobals "Search" = some (some (.ref Cs)))
    (g_w : PySem.W.nsIn K mainGlobals "Week" = some (some (.ref Cw)))
    (aPI : PySem.W.findIn K (.ref Cp) "__init__" = some (some (.ref fPI)))
    (iPI : PySem.W.isFn K (.ref fPI) = true)
    (lPI : K.lookup fPI = some ⟨ocPI, odPI, .func (PySem.W.fnOf "__init__" "Play.__init__" (defArgs sPlayInit) (defBody sPlayInit) (defScope sPlayInit) .none kVPI dcPI pmPI anPI cdPI ctPI), slPI⟩)
    (cPI : PySem.W.codeIn K cdPI "Play.__init__" = true)
    (kPI : PySem.W.keepIn K (.ref fPI) = true)
    (aPT : PySem.W.findIn K (.ref Cp) "is_as_told" = some (some (.ref fPT)))
    (iPT : PySem.W.isFn K (.ref fPT) = true)
    (lPT : K.lookup fPT = some ⟨ocPT, odPT, .func (PySem.W.fnOf "is_as_told" "Play.is_as_told" (defArgs sTold) (defBody sTold) (defScope sTold) .none kVPT dcPT pmPT anPT cdPT ctPT), slPT⟩)
    (cPT : PySem.W.codeIn K cdPT "Play.is_as_told" = true)
    (kPT : PySem.W.keepIn K (.ref fPT) = true)
    (aPK : PySem.W.findIn K (.ref Cp) "takes" = some (some (.ref fPK)))
    (iPK : PySem.W.isFn K (.ref fPK) = true)
    (lPK : K.lookup fPK = some ⟨ocPK, odPK, .func (PySem.W.fnOf "takes" "Play.takes" (defArgs sTakes) (defBody sTakes) (defScope sTakes) .none kVPK dcPK pmPK anPK cdPK ctPK), slPK⟩)
    (cPK : PySem.W.codeIn K cdPK "Play.takes" = true)
    (kPK : PySem.W.keepIn K (.ref fPK) = true)
    (aRI : PySem.W.findIn K (.ref Cr) "__init__" = some (some (.ref fRI)))
    (iRI : PySem.W.isFn K (.ref fRI) = true)
    (lRI : K.lookup fRI = some ⟨ocRI, odRI, .func (PySem.W.fnOf "__init__" "Reader.__init__" (defArgs sReaderInit) (defBody sReaderInit) (defScope sReaderInit) .none kVRI dcRI pmRI anRI cdRI ctRI), slRI⟩)
    (cRI : PySem.W.codeIn K cdRI "Reader.__init__" = true)
    (kRI : PySem.W.keepIn K (.ref fRI) = true)
    (aRM : PySem.W.findIn K (.ref Cr) "has_more" = some (some (.ref fRM)))
    (iRM : PySem.W.isFn K (.ref fRM) = true)
    (lRM : K.lookup fRM = some ⟨ocRM, odRM, .func (PySem.W.fnOf "has_more" "Reader.has_more" (defArgs sHasMore) (defBody sHasMore) (defScope sHasMore) .none kVRM dcRM pmRM anRM cdRM ctRM), slRM⟩)
    (cRM : PySem.W.codeIn K cdRM "Reader.has_more" = true)
    (kRM : PySem.W.keepIn K (.ref fRM) = true)
    (aRN : PySem.W.findIn K (.ref Cr) "number" = some (some (.ref fRN)))
    (iRN : PySem.W.isFn K (.ref fRN) = true)
    (lRN : K.lookup fRN = some ⟨ocRN, odRN, .func (PySem.W.fnOf "number" "Reader.number" (defArgs sNumber) (defBody sNumber) (defScope sNumber) .none kVRN dcRN pmRN anRN cdRN ctRN), slRN⟩)
    (cRN : PySem.W.codeIn K cdRN "Reader.number" = true)
    (kRN : PySem.W.keepIn K (.ref fRN) = true)
    (aRR : PySem.W.findIn K (.ref Cr) "row" = some (some (.ref fRR)))
    (iRR : PySem.W.isFn K (.ref fRR) = true)
    (lRR : K.lookup fRR = some ⟨ocRR, odRR, .func (PySem.W.fnOf "row" "Reader.row" (defArgs sRow) (defBody sRow) (defScope sRow) .none kVRR dcRR pmRR anRR cdRR ctRR), slRR⟩)
    (cRR : PySem.W.codeIn K cdRR "Reader.row" = true)
    (kRR : PySem.W.keepIn K (.ref fRR) = true)
    (aBF : PySem.W.nsIn K mainGlobals "first_wrong" = some (some (.ref fBF)))
    (lBF : K.lookup fBF = some ⟨ocBF, odBF, .func (PySem.W.fnOf "first_wrong" "first_wrong" (defArgs sFirstWrong) (defBody sFirstWrong) (defScope sFirstWrong) .none kVBF dcBF pmBF anBF cdBF ctBF), slBF⟩)
    (cBF : PySem.W.codeIn K cdBF "first_wrong" = true)
    (kBF : PySem.W.keepIn K (.ref fBF) = true)
    (aBN : PySem.W.nsIn K mainGlobals "wrong_night" = some (some (.ref fBN)))
    (lBN : K.lookup fBN = some ⟨ocBN, odBN, .func (PySem.W.fnOf "wrong_night" "wrong_night" (defArgs sWrongNight) (defBody sWrongNight) (defScope sWrongNight) .none kVBN dcBN pmBN anBN cdBN ctBN), slBN⟩)
    (cBN : PySem.W.codeIn K cdBN "wrong_night" = true)
    (kBN : PySem.W.keepIn K (.ref fBN) = true)
    (aBP : PySem.W.nsIn K mainGlobals "wrong_play" = some (some (.ref fBP)))
    (lBP : K.lookup fBP = some ⟨ocBP, odBP, .func (PySem.W.fnOf "wrong_play" "wrong_play" (defArgs sWrongPlay) (defBody sWrongPlay) (defScope sWrongPlay) .none kVBP dcBP pmBP anBP cdBP ctBP), slBP⟩)
    (cBP : PySem.W.codeIn K cdBP "wrong_play" = true)
    (kBP : PySem.W.keepIn K (.ref fBP) = true)
    (aBT : PySem.W.nsIn K mainGlobals "takings" = some (some (.ref fBT)))
    (lBT : K.lookup fBT = some ⟨ocBT, odBT, .func (PySem.W.fnOf "takings" "takings" (defArgs sTakings) (defBody sTakings) (defScope sTakings) .none kVBT dcBT pmBT anBT cdBT ctBT), slBT⟩)
    (cBT : PySem.W.codeIn K cdBT "takings" = true)
    (kBT : PySem.W.keepIn K (.ref fBT) = true)
    (aBC : PySem.W.nsIn K mainGlobals "change_cost" = some (some (.ref fBC)))
    (lBC : K.lookup fBC = some ⟨ocBC, odBC, .func (PySem.W.fnOf "change_cost" "change_cost" (defArgs sChange) (defBody sChange) (defScope sChange) .none kVBC dcBC pmBC anBC cdBC ctBC), slBC⟩)
    (cBC : PySem.W.codeIn K cdBC "change_cost" = true)
    (kBC : PySem.W.keepIn K (.ref fBC) = true)
    (aBW : PySem.W.nsIn K mainGlobals "work_cost" = some (some (.ref fBW)))
    (lBW : K.lookup fBW = some ⟨ocBW, odBW, .func (PySem.W.fnOf "work_cost" "work_cost" (defArgs sWork) (defBody sWork) (defScope sWork) .none kVBW dcBW pmBW anBW cdBW ctBW), slBW⟩)
    (cBW : PySem.W.codeIn K cdBW "work_cost" = true)
    (kBW : PySem.W.keepIn K (.ref fBW) = true)
    (aBR : PySem.W.nsIn K mainGlobals "reckoning" = some (some (.ref fBR)))
    (lBR : K.lookup fBR = some ⟨ocBR, odBR, .func (PySem.W.fnOf "reckoning" "reckoning" (defArgs sReckon) (defBody sReckon) (defScope sReckon) .none kVBR dcBR pmBR anBR cdBR ctBR), slBR⟩)
    (cBR : PySem.W.codeIn K cdBR "reckoning" = true)
    (kBR : PySem.W.keepIn K (.ref fBR) = true)
    (aBL : PySem.W.nsIn K mainGlobals "with_length" = some (some (.ref fBL)))
    (lBL : K.lookup fBL = some ⟨ocBL, odBL, .func (PySem.W.fnOf "with_length" "with_length" (defArgs sWithLen) (defBody sWithLen) (defScope sWithLen) .none kVBL dcBL pmBL anBL cdBL ctBL), slBL⟩)
    (cBL : PySem.W.codeIn K cdBL "with_length" = true)
    (kBL : PySem.W.keepIn K (.ref fBL) = true)
    (aOI : PySem.W.findIn K (.ref Co) "__init__" = some (some (.ref fOI)))
    (iOI : PySem.W.isFn K (.ref fOI) = true)
    (lOI : K.lookup fOI = some ⟨ocOI, odOI, .func (PySem.W.fnOf "__init__" "Outlook.__init__" (defArgs sOutInit) (defBody sOutInit) (defScope sOutInit) .none kVOI dcOI pmOI anOI cdOI ctOI), slOI⟩)
    (cOI : PySem.W.codeIn K cdOI "Outlook.__init__" = true)
    (kOI : PySem.W.keepIn K (.ref fOI) = true)
    (aSI : PySem.W.findIn K (.ref Cs) "__init__" = some (some (.ref fSI)))
    (iSI : PySem.W.isFn K (.ref fSI) = true)
    (lSI : K.lookup fSI = some ⟨ocSI, odSI, .func (PySem.W.fnOf "__init__" "Search.__init__" (defArgs sSearchInit) (defBody sSearchInit) (defScope sSearchInit) .none kVSI dcSI pmSI anSI cdSI ctSI), slSI⟩)
    (cSI : PySem.W.codeIn K cdSI "Search.__init__" = true)
    (kSI : PySem.W.keepIn K (.ref fSI) = true)
    (aSW : PySem.W.findIn K (.ref Cs) "whole_week" = some (some (.ref fSW)))
    (iSW : PySem.W.isFn K (.ref fSW) = true)
    (lSW : K.lookup fSW = some ⟨ocSW, odSW, .func (PySem.W.fnOf "whole_week" "Search.whole_week" (defArgs sWhole) (defBody sWhole) (defScope sWhole) .none kVSW dcSW pmSW anSW cdSW ctSW), slSW⟩)
    (cSW : PySem.W.codeIn K cdSW "Search.whole_week" = true)
    (kSW : PySem.W.keepIn K (.ref fSW) = true)
    (aSO : PySem.W.findIn K (.ref Cs) "onward" = some (some (.ref fSO)))
    (iSO : PySem.W.isFn K (.ref fSO) = true)
    (lSO : K.lookup fSO = some ⟨ocSO, odSO, .func (PySem.W.fnOf "onward" "Search.onward" (defArgs sOnward) (defBody sOnward) (defScope sOnward) .none kVSO dcSO pmSO anSO cdSO ctSO), slSO⟩)
    (cSO : PySem.W.codeIn K cdSO "Search.onward" = true)
    (kSO : PySem.W.keepIn K (.ref fSO) = true)
    (aSL : PySem.W.findIn K (.ref Cs) "looked_up" = some (some (.ref fSL)))
    (iSL : PySem.W.isFn K (.ref fSL) = true)
    (lSL : K.lookup fSL = some ⟨ocSL, odSL, .func (PySem.W.fnOf "looked_up" "Search.looked_up" (defArgs sLooked) (defBody sLooked) (defScope sLooked) .none kVSL dcSL pmSL anSL cdSL ctSL), slSL⟩)
    (cSL : PySem.W.codeIn K cdSL "Search.looked_up" = true)
    (kSL : PySem.W.keepIn K (.ref fSL) = true)
    (aSE : PySem.W.findIn K (.ref Cs) "at_the_end" = some (some (.ref fSE)))
    (iSE : PySem.W.isFn K (.ref fSE) = true)
    (lSE : K.lookup fSE = some ⟨ocSE, odSE, .func (PySem.W.fnOf "at_the_end" "Search.at_the_end" (defArgs sAtEnd) (defBody sAtEnd) (defScope sAtEnd) .none kVSE dcSE pmSE anSE cdSE ctSE), slSE⟩)
    (cSE : PySem.W.codeIn K cdSE "Search.at_the_end" = true)
    (kSE : PySem.W.keepIn K (.ref fSE) = true)
    (aSC : PySem.W.findIn K (.ref Cs) "choosing" = some (some (.ref fSC)))
    (iSC : PySem.W.isFn K (.ref fSC) = true)
    (lSC : K.lookup fSC = some ⟨ocSC, odSC, .func (PySem.W.fnOf "choosing" "Search.choosing" (defArgs sChoosing) (defBody sChoosing) (defScope sChoosing) .none kVSC dcSC pmSC anSC cdSC ctSC), slSC⟩)
    (cSC : PySem.W.codeIn K cdSC "Search.choosing" = true)
    (kSC : PySem.W.keepIn K (.ref fSC) = true)
    (aQN : PySem.W.nsIn K mainGlobals "no_way" = some (some (.ref fQN)))
    (lQN : K.lookup fQN = some ⟨ocQN, odQN, .func (PySem.W.fnOf "no_way" "no_way" (defArgs sNoWay) (defBody sNoWay) (defScope sNoWay) .none kVQN dcQN pmQN anQN cdQN ctQN), slQN⟩)
    (cQN : PySem.W.codeIn K cdQN "no_way" = true)
    (kQN : PySem.W.keepIn K (.ref fQN) = true)
    (aQJ : PySem.W.nsIn K mainGlobals "joined" = some (some (.ref fQJ)))
    (lQJ : K.lookup fQJ = some ⟨ocQJ, odQJ, .func (PySem.W.fnOf "joined" "joined" (defArgs sJoined) (defBody sJoined) (defScope sJoined) .none kVQJ dcQJ pmQJ anQJ cdQJ ctQJ), slQJ⟩)
    (cQJ : PySem.W.codeIn K cdQJ "joined" = true)
    (kQJ : PySem.W.keepIn K (.ref fQJ) = true)
    (aQM : PySem.W.nsIn K mainGlobals "one_more" = some (some (.ref fQM)))
    (lQM : K.lookup fQM = some ⟨ocQM, odQM, .func (PySem.W.fnOf "one_more" "one_more" (defArgs sOneMore) (defBody sOneMore) (defScope sOneMore) .none kVQM dcQM pmQM anQM cdQM ctQM), slQM⟩)
    (cQM : PySem.W.codeIn K cdQM "one_more" = true)
    (kQM : PySem.W.keepIn K (.ref fQM) = true)
    (aWI : PySem.W.findIn K (.ref Cw) "__init__" = some (some (.ref fWI)))
    (iWI : PySem.W.isFn K (.ref fWI) = true)
    (lWI : K.lookup fWI = some ⟨ocWI, odWI, .func (PySem.W.fnOf "__init__" "Week.__init__" (defArgs sWeekInit) (defBody sWeekInit) (defScope sWeekInit) .none kVWI dcWI pmWI anWI cdWI ctWI), slWI⟩)
    (cWI : PySem.W.codeIn K cdWI "Week.__init__" = true)
    (kWI : PySem.W.keepIn K (.ref fWI) = true)
    (aWB : PySem.W.findIn K (.ref Cw) "begins" = some (some (.ref fWB)))
    (iWB : PySem.W.isFn K (.ref fWB) = true)
    (lWB : K.lookup fWB = some ⟨ocWB, odWB, .func (PySem.W.fnOf "begins" "Week.begins" (defArgs sBegins) (defBody sBegins) (defScope sBegins) .none kVWB dcWB pmWB anWB cdWB ctWB), slWB⟩)
    (cWB : PySem.W.codeIn K cdWB "Week.begins" = true)
    (kWB : PySem.W.keepIn K (.ref fWB) = true)
    (aWP : PySem.W.findIn K (.ref Cw) "play" = some (some (.ref fWP)))
    (iWP : PySem.W.isFn K (.ref fWP) = true)
    (lWP : K.lookup fWP = some ⟨ocWP, odWP, .func (PySem.W.fnOf "play" "Week.play" (defArgs sPlay) (defBody sPlay) (defScope sPlay) .none kVWP dcWP pmWP anWP cdWP ctWP), slWP⟩)
    (cWP : PySem.W.codeIn K cdWP "Week.play" = true)
    (kWP : PySem.W.keepIn K (.ref fWP) = true)
    (aWX : PySem.W.findIn K (.ref Cw) "best" = some (some (.ref fWX)))
    (iWX : PySem.W.isFn K (.ref fWX) = true)
    (lWX : K.lookup fWX = some ⟨ocWX, odWX, .func (PySem.W.fnOf "best" "Week.best" (defArgs sBest) (defBody sBest) (defScope sBest) .none kVWX dcWX pmWX anWX cdWX ctWX), slWX⟩)
    (cWX : PySem.W.codeIn K cdWX "Week.best" = true)
    (kWX : PySem.W.keepIn K (.ref fWX) = true)
    (aWC : PySem.W.findIn K (.ref Cw) "check" = some (some (.ref fWC)))
    (iWC : PySem.W.isFn K (.ref fWC) = true)
    (lWC : K.lookup fWC = some ⟨ocWC, odWC, .func (PySem.W.fnOf "check" "Week.check" (defArgs sCheck) (defBody sCheck) (defScope sCheck) .none kVWC dcWC pmWC anWC cdWC ctWC), slWC⟩)
    (cWC : PySem.W.codeIn K cdWC "Week.check" = true)
    (kWC : PySem.W.keepIn K (.ref fWC) = true)
    (aWL : PySem.W.findIn K (.ref Cw) "is_bill" = some (some (.ref fWL)))
    (iWL : PySem.W.isFn K (.ref fWL) = true)
    (lWL : K.lookup fWL = some ⟨ocWL, odWL, .func (PySem.W.fnOf "is_bill" "Week.is_bill" (defArgs sIsBill) (defBody sIsBill) (defScope sIsBill) .none kVWL dcWL pmWL anWL cdWL ctWL), slWL⟩)
    (cWL : PySem.W.codeIn K cdWL "Week.is_bill" = true)
    (kWL : PySem.W.keepIn K (.ref fWL) = true)
    (aWN : PySem.W.findIn K (.ref Cw) "night" = some (some (.ref fWN)))
    (iWN : PySem.W.isFn K (.ref fWN) = true)
    (lWN : K.lookup fWN = some ⟨ocWN, odWN, .func (PySem.W.fnOf "night" "Week.night" (defArgs sNight) (defBody sNight) (defScope sNight) .none kVWN dcWN pmWN anWN cdWN ctWN), slWN⟩)
    (cWN : PySem.W.codeIn K cdWN "Week.night" = true)
    (kWN : PySem.W.keepIn K (.ref fWN) = true)
    (aWD : PySem.W.findIn K (.ref Cw) "drop" = some (some (.ref fWD)))
    (iWD : PySem.W.isFn K (.ref fWD) = true)
    (lWD : K.lookup fWD = some ⟨ocWD, odWD, .func (PySem.W.fnOf "drop" "Week.drop" (defArgs sDrop) (defBody sDrop) (defScope sDrop) .none kVWD dcWD pmWD anWD cdWD ctWD), slWD⟩)
    (cWD : PySem.W.codeIn K cdWD "Week.drop" = true)
    (kWD : PySem.W.keepIn K (.ref fWD) = true)
    (aHA : PySem.W.nsIn K mainGlobals "are_nights" = some (some (.ref fHA)))
    (lHA : K.lookup fHA = some ⟨ocHA, odHA, .func (PySem.W.fnOf "are_nights" "are_nights" (defArgs sAreNights) (defBody sAreNights) (defScope sAreNights) .none kVHA dcHA pmHA anHA cdHA ctHA), slHA⟩)
    (cHA : PySem.W.codeIn K cdHA "are_nights" = true)
    (kHA : PySem.W.keepIn K (.ref fHA) = true)
    (aHD : PySem.W.nsIn K mainGlobals "dark_house" = some (some (.ref fHD)))
    (lHD : K.lookup fHD = some ⟨ocHD, odHD, .func (PySem.W.fnOf "dark_house" "dark_house" (defArgs sDark) (defBody sDark) (defScope sDark) .none kVHD dcHD pmHD anHD cdHD ctHD), slHD⟩)
    (cHD : PySem.W.codeIn K cdHD "dark_house" = true)
    (kHD : PySem.W.keepIn K (.ref fHD) = true)
    (aAA : PySem.W.nsIn K mainGlobals "answers" = some (some (.ref fAA)))
    (lAA : K.lookup fAA = some ⟨ocAA, odAA, .func (PySem.W.fnOf "answers" "answers" (defArgs sAnswers) (defBody sAnswers) (defScope sAnswers) .none kVAA dcAA pmAA anAA cdAA ctAA), slAA⟩)
    (cAA : PySem.W.codeIn K cdAA "answers" = true)
    (kAA : PySem.W.keepIn K (.ref fAA) = true)
    (aAN : PySem.W.nsIn K mainGlobals "answer_next" = some (some (.ref fAN)))
    (lAN : K.lookup fAN = some ⟨ocAN, odAN, .func (PySem.W.fnOf "answer_next" "answer_next" (defArgs sNext) (defBody sNext) (defScope sNext) .none kVAN dcAN pmAN anAN cdAN ctAN), slAN⟩)
    (cAN : PySem.W.codeIn K cdAN "answer_next" = true)
    (kAN : PySem.W.keepIn K (.ref fAN) = true)
    (aAR : PySem.W.nsIn K mainGlobals "read_play" = some (some (.ref fAR)))
    (lAR : K.lookup fAR = some ⟨ocAR, odAR, .func (PySem.W.fnOf "read_play" "read_play" (defArgs sReadPlay) (defBody sReadPlay) (defScope sReadPlay) .none kVAR dcAR pmAR anAR cdAR ctAR), slAR⟩)
    (cAR : PySem.W.codeIn K cdAR "read_play" = true)
    (kAR : PySem.W.keepIn K (.ref fAR) = true)
    (pg_p : PySem.W.plainGet K Cp Str.empty = true)
    (hd_p : PySem.W.hasDictIn K Cp = true)
    (po_p : PySem.W.plainOver K Cp = true)
    (sa_p : PySem.W.findIn K (.ref Cp) "__setattr__" = some (some (.builtin "object.__setattr__")))
    (mk_p : PySem.W.makesIn K Cp = true)
    (kc_p : PySem.W.keepIn K (.ref Cp) = true)
    (pg_r : PySem.W.plainGet K Cr Str.empty = true)
    (hd_r : PySem.W.hasDictIn K Cr = true)
    (po_r : PySem.W.plainOver K Cr = true)
    (sa_r : PySem.W.findIn K (.ref Cr) "__setattr__" = some (some (.builtin "object.__setattr__")))
    (mk_r : PySem.W.makesIn K Cr = true)
    (kc_r : PySem.W.keepIn K (.ref Cr) = true)
    (pg_o : PySem.W.plainGet K Co Str.empty = true)
    (hd_o : PySem.W.hasDictIn K Co = true)
    (po_o : PySem.W.plainOver K Co = true)
    (sa_o : PySem.W.findIn K (.ref Co) "__setattr__" = some (some (.builtin "object.__setattr__")))
    (mk_o : PySem.W.makesIn K Co = true)
    (kc_o : PySem.W.keepIn K (.ref Co) = true)
    (pg_s : PySem.W.plainGet K Cs Str.empty = true)
    (hd_s : PySem.W.hasDictIn K Cs = true)
    (po_s : PySem.W.plainOver K Cs = true)
    (sa_s : PySem.W.findIn K (.ref Cs) "__setattr__" = some (some (.builtin "object.__setattr__")))
    (mk_s : PySem.W.makesIn K Cs = true)
    (kc_s : PySem.W.keepIn K (.ref Cs) = true)
    (pg_w : PySem.W.plainGet K Cw Str.empty = true)
    (hd_w : PySem.W.hasDictIn K Cw = true)
    (po_w : PySem.W.plainOver K Cw = true)
    (sa_w : PySem.W.findIn K (.ref Cw) "__setattr__" = some (some (.builtin "object.__setattr__")))
    (mk_w : PySem.W.makesIn K Cw = true)
    (kc_w : PySem.W.keepIn K (.ref Cw) = true)
    (n_np1 : PySem.W.findIn K (.ref Cp) "set_up" = some none)
    (n_np2 : PySem.W.findIn K (.ref Cp) "strike" = some none)
    (n_np3 : PySem.W.findIn K (.ref Cp) "may_run" = some none)
    (n_np4 : PySem.W.findIn K (.ref Cp) "least" = some none)
    (n_np5 : PySem.W.findIn K (.ref Cp) "most" = some none)
    (n_np6 : PySem.W.findIn K (.ref Cp) "brings" = some none)
    (n_nr1 : PySem.W.findIn K (.ref Cr) "line" = some none)
    (n_nr2 : PySem.W.findIn K (.ref Cr) "place" = some none)
    (n_no1 : PySem.W.findIn K (.ref Co) "left" = some none)
    (n_no2 : PySem.W.findIn K (.ref Co) "ways" = some none)
    (n_no3 : PySem.W.findIn K (.ref Co) "bill" = some none)
    (n_ns1 : PySem.W.findIn K (.ref Cs) "come" = some none)
    (n_ns2 : PySem.W.findIn K (.ref Cs) "plays" = some none)
    (n_ns3 : PySem.W.findIn K (.ref Cs) "known" = some none)
    (n_nw1 : PySem.W.findIn K (.ref Cw) "come" = some none)
    (n_nw2 : PySem.W.findIn K (.ref Cw) "plays" = some none)
    (z_len : PySem.W.nsIn K mainGlobals "len" = some none)
    (z_max : PySem.W.nsIn K mainGlobals "max" = some none)
    (z_min : PySem.W.nsIn K mainGlobals "min" = some none)
    (z_range : PySem.W.nsIn K mainGlobals "range" = some none)
    (z_enumerate : PySem.W.nsIn K mainGlobals "enumerate" = some none)
    (z_sum : PySem.W.nsIn K mainGlobals "sum" = some none)
    (z_list : PySem.W.nsIn K mainGlobals "list" = some none)
    (t_kMoney : PySem.W.nsIn K mainGlobals "MOST_MONEY" = some (some (.int 100000 tkMoney)))
    (t_kBrings : PySem.W.nsIn K mainGlobals "MOST_BRINGS" = some (some (.int 6 tkBrings)))
    (t_kTwice : PySem.W.nsIn K mainGlobals "NOT_TWICE_RUNNING" = some (some (.int 1 tkTwice)))
    (t_kSeldom : PySem.W.nsIn K mainGlobals "TOO_SELDOM" = some (some (.int 2 tkSeldom)))
    (t_kOften : PySem.W.nsIn K mainGlobals "TOO_OFTEN" = some (some (.int 3 tkOften)))
    (t_kNights : PySem.W.nsIn K mainGlobals "MOST_NIGHTS" = some (some (.int 6 tkNights)))
    (t_kCome : PySem.W.nsIn K mainGlobals "MOST_COME" = some (some (.int 300 tkCome)))
    (t_kPlays : PySem.W.nsIn K mainGlobals "MOST_PLAYS" = some (some (.int 4 tkPlays)))
    (t_kBegins : PySem.W.nsIn K mainGlobals "BEGINS" = some (some (.int 0 tkBegins)))
    (t_kPlay : PySem.W.nsIn K mainGlobals "PLAY" = some (some (.int 1 tkPlay)))
    (t_kBest : PySem.W.nsIn K mainGlobals "BEST" = some (some (.int 2 tkBest)))
    (t_kCheck : PySem.W.nsIn K mainGlobals "CHECK" = some (some (.int 3 tkCheck)))
    (t_kNight : PySem.W.nsIn K mainGlobals "NIGHT" = some (some (.int 4 tkNight)))
    (t_kDrop : PySem.W.nsIn K mainGlobals "DROP" = some (some (.int 5 tkDrop))) :
    ∃ fd : FuncData, (∀ (s : Shared) (us : List Value), us.length = (["calls"] : List Str).length → BindsTo s fd ⟨us, []⟩ ((["calls"] : List Str).zip us)) ∧ ∀ base : Heap, K.In base → base.Ns mainGlobals mg → FnOk P w K mg base CX0 28 fa fd ["calls"] (spAnswers K) := by
  have e := hfa.symm.trans (PySem.W.mg_of X G aAA)
  cases e
  have T : Txt K mg Cp Cr Co Cs Cw := {
    cp := ⟨pg_p, hd_p, po_p, sa_p⟩, cr := ⟨pg_r, hd_r, po_r, sa_r⟩, co := ⟨pg_o, hd_o, po_o, sa_o⟩, cs := ⟨pg_s, hd_s, po_s, sa_s⟩, cw := ⟨pg_w, hd_w, po_w, sa_w⟩, np1 := n_np1, np2 := n_np2, np3 := n_np3, np4 := n_np4, np5 := n_np5, np6 := n_np6, nr1 := n_nr1, nr2 := n_nr2, no1 := n_no1, no2 := n_no2, no3 := n_no3, ns1 := n_ns1, ns2 := n_ns2, ns3 := n_ns3, nw1 := n_nw1, nw2 := n_nw2, gp := PySem.W.mg_of X G g_p, gr := PySem.W.mg_of X G g_r, go := PySem.W.mg_of X G g_o, gs := PySem.W.mg_of X G g_s, gw := PySem.W.mg_of X G g_w, zlen := PySem.W.mg_none_of X G z_len, zmax := PySem.W.mg_none_of X G z_max, zmin := PySem.W.mg_none_of X G z_min, zrange := PySem.W.mg_none_of X G z_range, zenum := PySem.W.mg_none_of X G z_enumerate, zsum := PySem.W.mg_none_of X G z_sum, zlist := PySem.W.mg_none_of X G z_list, kMoney := ⟨tkMoney, PySem.W.mg_of X G t_kMoney⟩, kBrings := ⟨tkBrings, PySem.W.mg_of X G t_kBrings⟩, kTwice := ⟨tkTwice, PySem.W.mg_of X G t_kTwice⟩, kSeldom := ⟨tkSeldom, PySem.W.mg_of X G t_kSeldom⟩, kOften := ⟨tkOften, PySem.W.mg_of X G t_kOften⟩, kNights := ⟨tkNights, PySem.W.mg_of X G t_kNights⟩, kCome := ⟨tkCome, PySem.W.mg_of X G t_kCome⟩, kPlays := ⟨tkPlays, PySem.W.mg_of X G t_kPlays⟩, kBegins := ⟨tkBegins, PySem.W.mg_of X G t_kBegins⟩, kPlay := ⟨tkPlay, PySem.W.mg_of X G t_kPlay⟩, kBest := ⟨tkBest, PySem.W.mg_of X G t_kBest⟩, kCheck := ⟨tkCheck, PySem.W.mg_of X G t_kCheck⟩, kNight := ⟨tkNight, PySem.W.mg_of X G t_kNight⟩, kDrop := ⟨tkDrop, PySem.W.mg_of X G t_kDrop⟩ }
  have FPI := fun_mk (st := sPlayInit) lPI cPI kPI
  have BPI := FPI.binds (ps := ["self", "set_up", "strike", "may_run", "least", "most", "brings"]) fun _ _ _ _ _ _ us hl => match us, hl with | [_, _, _, _, _, _, _], _ => rfl
  have MPI : Mb K Cp "__init__" fPI _ ["self", "set_up", "strike", "may_run", "least", "most", "brings"] := ⟨⟨aPI, iPI, kPI⟩, BPI⟩
  have FPT := fun_mk (st := sTold) lPT cPT kPT
  have BPT := FPT.binds (ps := ["self", "nights"]) fun _ _ _ _ _ _ us hl => match us, hl with | [_, _], _ => rfl
  have MPT : Mb K Cp "is_as_told" fPT _ ["self", "nights"] := ⟨⟨aPT, iPT, kPT⟩, BPT⟩
  have FPK := fun_mk (st := sTakes) lPK cPK kPK
  have BPK := FPK.binds (ps := ["self", "times", "come"]) fun _ _ _ _ _ _ us hl => match us, hl with | [_, _, _], _ => rfl
  have MPK : Mb K Cp "takes" fPK _ ["self", "times", "come"] := ⟨⟨aPK, iPK, kPK⟩, BPK⟩
  have FRI := fun_mk (st := sReaderInit) lRI cRI kRI
  have BRI := FRI.binds (ps := ["self", "line"]) fun _ _ _ _ _ _ us hl => match us, hl with | [_, _], _ => rfl
  have MRI : Mb K Cr "__init__" fRI _ ["self", "line"] := ⟨⟨aRI, iRI, kRI⟩, BRI⟩
  have FRM := fun_mk (st := sHasMore) lRM cRM kRM
  have BRM := FRM.binds (ps := ["self"]) fun _ _ _ _ _ _ us hl => match us, hl with | [_], _ => rfl
  have MRM : Mb K Cr "has_more" fRM _ ["self"] := ⟨⟨aRM, iRM, kRM⟩, BRM⟩
  have FRN := fun_mk (st := sNumber) lRN cRN kRN
  have BRN := FRN.binds (ps := ["self"]) fun _ _ _ _ _ _ us hl => match us, hl with | [_], _ => rfl
  have MRN : Mb K Cr "number" fRN _ ["self"] := ⟨⟨aRN, iRN, kRN⟩, BRN⟩
  have FRR := fun_mk (st := sRow) lRR cRR kRR
  have BRR := FRR.binds (ps := ["self"]) fun _ _ _ _ _ _ us hl => match us, hl with | [_], _ => rfl
  have MRR : Mb K Cr "row" fRR _ ["self"] := ⟨⟨aRR, iRR, kRR⟩, BRR⟩
  have FBF := fun_mk (st := sFirstWrong) lBF cBF kBF
  have BBF := FBF.binds (ps := ["plays", "bill"]) fun _ _ _ _ _ _ us hl => match us, hl with | [_, _], _ => rfl
  have MBF : Cb K mg "first_wrong" fBF _ ["plays", "bill"] := ⟨PySem.W.mg_of X G aBF, kBF, BBF⟩
  have FBN := fun_mk (st := sWrongNight) lBN cBN kBN
  have BBN := FBN.binds (ps := ["plays", "bill"]) fun _ _ _ _ _ _ us hl => match us, hl with | [_, _], _ => rfl
  have MBN : Cb K mg "wrong_night" fBN _ ["plays", "bill"] := ⟨PySem.W.mg_of X G aBN, kBN, BBN⟩
  have FBP := fun_mk (st := sWrongPlay) lBP cBP kBP
  have BBP := FBP.binds (ps := ["plays", "bill"]) fun _ _ _ _ _ _ us hl => match us, hl with | [_, _], _ => rfl
  have MBP : Cb K mg "wrong_play" fBP _ ["plays", "bill"] := ⟨PySem.W.mg_of X G aBP, kBP, BBP⟩
  have FBT := fun_mk (st := sTakings) lBT cBT kBT
  have BBT := FBT.binds (ps := ["come", "plays", "bill"]) fun _ _ _ _ _ _ us hl => match us, hl with | [_, _, _], _ => rfl
  have MBT : Cb K mg "takings" fBT _ ["come", "plays", "bill"] := ⟨PySem.W.mg_of X G aBT, kBT, BBT⟩
  have FBC := fun_mk (st := sChange) lBC cBC kBC
  have BBC := FBC.binds (ps := ["plays", "before", "number"]) fun _ _ _ _ _ _ us hl => match us, hl with | [_, _, _], _ => rfl
  have MBC : Cb K mg "change_cost" fBC _ ["plays", "before", "number"] := ⟨PySem.W.mg_of X G aBC, kBC, BBC⟩
  have FBW := fun_mk (st := sWork) lBW cBW kBW
  have BBW := FBW.binds (ps := ["plays", "bill"]) fun _ _ _ _ _ _ us hl => match us, hl with | [_, _], _ => rfl
  have MBW : Cb K mg "work_cost" fBW _ ["plays", "bill"] := ⟨PySem.W.mg_of X G aBW, kBW, BBW⟩
  have FBR := fun_mk (st := sReckon) lBR cBR kBR
  have BBR := FBR.binds (ps := ["come", "plays", "bill"]) fun _ _ _ _ _ _ us hl => match us, hl with | [_, _, _], _ => rfl
  have MBR : Cb K mg "reckoning" fBR _ ["come", "plays", "bill"] := ⟨PySem.W.mg_of X G aBR, kBR, BBR⟩
  have FBL := fun_mk (st := sWithLen) lBL cBL kBL
  have BBL := FBL.binds (ps := ["row"]) fun _ _ _ _ _ _ us hl => match us, hl with | [_], _ => rfl
  have MBL : Cb K mg "with_length" fBL _ ["row"] := ⟨PySem.W.mg_of X G aBL, kBL, BBL⟩
  have FOI := fun_mk (st := sOutInit) lOI cOI kOI
  have BOI := FOI.binds (ps := ["self", "left", "ways", "bill"]) fun _ _ _ _ _ _ us hl => match us, hl with | [_, _, _, _], _ => rfl
  have MOI : Mb K Co "__init__" fOI _ ["self", "left", "ways", "bill"] := ⟨⟨aOI, iOI, kOI⟩, BOI⟩
  have FSI := fun_mk (st := sSearchInit) lSI cSI kSI
  have BSI := FSI.binds (ps := ["self", "come", "plays"]) fun _ _ _ _ _ _ us hl => match us, hl with | [_, _, _], _ => rfl
  have MSI : Mb K Cs "__init__" fSI _ ["self", "come", "plays"] := ⟨⟨aSI, iSI, kSI⟩, BSI⟩
  have FSW := fun_mk (st := sWhole) lSW cSW kSW
  have BSW := FSW.binds (ps := ["self"]) fun _ _ _ _ _ _ us hl => match us, hl with | [_], _ => rfl
  have MSW : Mb K Cs "whole_week" fSW _ ["self"] := ⟨⟨aSW, iSW, kSW⟩, BSW⟩
  have FSO := fun_mk (st := sOnward) lSO cSO kSO
  have BSO := FSO.binds (ps := ["self", "night", "before", "given"]) fun _ _ _ _ _ _ us hl => match us, hl with | [_, _, _, _], _ => rfl
  have MSO : Mb K Cs "onward" fSO _ ["self", "night", "before", "given"] := ⟨⟨aSO, iSO, kSO⟩, BSO⟩
  have FSL := fun_mk (st := sLooked) lSL cSL kSL
  have BSL := FSL.binds (ps := ["self", "night", "before", "given"]) fun _ _ _ _ _ _ us hl => match us, hl with | [_, _, _, _], _ => rfl
  have MSL : Mb K Cs "looked_up" fSL _ ["self", "night", "before", "given"] := ⟨⟨aSL, iSL, kSL⟩, BSL⟩
  have FSE := fun_mk (st := sAtEnd) lSE cSE kSE
  have BSE := FSE.binds (ps := ["self", "before", "given"]) fun _ _ _ _ _ _ us hl => match us, hl with | [_, _, _], _ => rfl
  have MSE : Mb K Cs "at_the_end" fSE _ ["self", "before", "given"] := ⟨⟨aSE, iSE, kSE⟩, BSE⟩
  have FSC := fun_mk (st := sChoosing) lSC cSC kSC
  have BSC := FSC.binds (ps := ["self", "number", "night", "before", "given"]) fun _ _ _ _ _ _ us hl => match us, hl with | [_, _, _, _, _], _ => rfl
  have MSC : Mb K Cs "choosing" fSC _ ["self", "number", "night", "before", "given"] := ⟨⟨aSC, iSC, kSC⟩, BSC⟩
  have FQN := fun_mk (st := sNoWay) lQN cQN kQN
  have BQN := FQN.binds (ps := []) fun _ _ _ _ _ _ us hl => match us, hl with | [], _ => rfl
  have MQN : Cb K mg "no_way" fQN _ [] := ⟨PySem.W.mg_of X G aQN, kQN, BQN⟩
  have FQJ := fun_mk (st := sJoined) lQJ cQJ kQJ
  have BQJ := FQJ.binds (ps := ["found", "later"]) fun _ _ _ _ _ _ us hl => match us, hl with | [_, _], _ => rfl
  have MQJ : Cb K mg "joined" fQJ _ ["found", "later"] := ⟨PySem.W.mg_of X G aQJ, kQJ, BQJ⟩
  have FQM := fun_mk (st := sOneMore) lQM cQM kQM
  have BQM := FQM.binds (ps := ["given", "number"]) fun _ _ _ _ _ _ us hl => match us, hl with | [_, _], _ => rfl
  have MQM : Cb K mg "one_more" fQM _ ["given", "number"] := ⟨PySem.W.mg_of X G aQM, kQM, BQM⟩
  have FWI := fun_mk (st := sWeekInit) lWI cWI kWI
  have BWI := FWI.binds (ps := ["self"]) fun _ _ _ _ _ _ us hl => match us, hl with | [_], _ => rfl
  have MWI : Mb K Cw "__init__" fWI _ ["self"] := ⟨⟨aWI, iWI, kWI⟩, BWI⟩
  have FWB := fun_mk (st := sBegins) lWB cWB kWB
  have BWB := FWB.binds (ps := ["self", "come"]) fun _ _ _ _ _ _ us hl => match us, hl with | [_, _], _ => rfl
  have MWB : Mb K Cw "begins" fWB _ ["self", "come"] := ⟨⟨aWB, iWB, kWB⟩, BWB⟩
  have FWP := fun_mk (st := sPlay) lWP cWP kWP
  have BWP := FWP.binds (ps := ["self", "told"]) fun _ _ _ _ _ _ us hl => match us, hl with | [_, _], _ => rfl
  have MWP : Mb K Cw "play" fWP _ ["self", "told"] := ⟨⟨aWP, iWP, kWP⟩, BWP⟩
  have FWX := fun_mk (st := sBest) lWX cWX kWX
  have BWX := FWX.binds (ps := ["self"]) fun _ _ _ _ _ _ us hl => match us, hl with | [_], _ => rfl
  have MWX : Mb K Cw "best" fWX _ ["self"] := ⟨⟨aWX, iWX, kWX⟩, BWX⟩
  have FWC := fun_mk (st := sCheck) lWC cWC kWC
  have BWC := FWC.binds (ps := ["self", "bill"]) fun _ _ _ _ _ _ us hl => match us, hl with | [_, _], _ => rfl
  have MWC : Mb K Cw "check" fWC _ ["self", "bill"] := ⟨⟨aWC, iWC, kWC⟩, BWC⟩
  have FWL := fun_mk (st := sIsBill) lWL cWL kWL
  have BWL := FWL.binds (ps := ["self", "bill"]) fun _ _ _ _ _ _ us hl => match us, hl with | [_, _], _ => rfl
  have MWL : Mb K Cw "is_bill" fWL _ ["self", "bill"] := ⟨⟨aWL, iWL, kWL⟩, BWL⟩
  have FWN := fun_mk (st := sNight) lWN cWN kWN
  have BWN := FWN.binds (ps := ["self", "place", "come"]) fun _ _ _ _ _ _ us hl => match us, hl with | [_, _, _], _ => rfl
  have MWN : Mb K Cw "night" fWN _ ["self", "place", "come"] := ⟨⟨aWN, iWN, kWN⟩, BWN⟩
  have FWD := fun_mk (st := sDrop) lWD cWD kWD
  have BWD := FWD.binds (ps := ["self", "number"]) fun _ _ _ _ _ _ us hl => match us, hl with | [_, _], _ => rfl
  have MWD : Mb K Cw "drop" fWD _ ["self", "number"] := ⟨⟨aWD, iWD, kWD⟩, BWD⟩
  have FHA := fun_mk (st := sAreNights) lHA cHA kHA
  have BHA := FHA.binds (ps := ["come"]) fun _ _ _ _ _ _ us hl => match us, hl with | [_], _ => rfl
  have MHA : Cb K mg "are_nights" fHA _ ["come"] := ⟨PySem.W.mg_of X G aHA, kHA, BHA⟩
  have FHD := fun_mk (st := sDark) lHD cHD kHD
  have BHD := FHD.binds (ps := []) fun _ _ _ _ _ _ us hl => match us, hl with | [], _ => rfl
  have MHD : Cb K mg "dark_house" fHD _ [] := ⟨PySem.W.mg_of X G aHD, kHD, BHD⟩
  have FAA := fun_mk (st := sAnswers) lAA cAA kAA
  have FAN := fun_mk (st := sNext) lAN cAN kAN
  have BAN := FAN.binds (ps := ["reader", "week"]) fun _ _ _ _ _ _ us hl => match us, hl with | [_, _], _ => rfl
  have MAN : Cb K mg "answer_next" fAN _ ["reader", "week"] := ⟨PySem.W.mg_of X G aAN, kAN, BAN⟩
  have FAR := fun_mk (st := sReadPlay) lAR cAR kAR
  have BAR := FAR.binds (ps := ["reader"]) fun _ _ _ _ _ _ us hl => match us, hl with | [_], _ => rfl
  have MAR : Cb K mg "read_play" fAR _ ["reader"] := ⟨PySem.W.mg_of X G aAR, kAR, BAR⟩
  refine ⟨PySem.W.fnOf "answers" "answers" (defArgs sAnswers) (defBody sAnswers) (defScope sAnswers) .none kVAA dcAA pmAA anAA cdAA ctAA, fun s us hu => match us, hu with | [_], _ => .of_eq rfl, fun base _ _ => ?_⟩
  have mP : MkP P w K mg base Cp fPI _ := ⟨⟨mk_p, aPI, iPI, kc_p⟩, ok_playInit FPI T, BPI⟩
  have mO : MkO P w K mg base Co fOI _ := ⟨⟨mk_o, aOI, iOI, kc_o⟩, ok_outInit FOI T, BOI⟩
  have mS : MkS P w K mg base Cs fSI _ := ⟨⟨mk_s, aSI, iSI, kc_s⟩, ok_searchInit FSI T, BSI⟩
  have rPT : FnOk P w K mg base CX0 1 fPT _ ["self", "nights"] (spTold Cp) := ok_told FPT T
  have rPK : FnOk P w K mg base CX0 1 fPK _ ["self", "times", "come"] (spTakes Cp) := ok_takes FPK T
  have rRI : FnOk P w K mg base CX0 1 fRI _ ["self", "line"] (spReaderInit Cr) := ok_readerInit FRI T
  have rRM : FnOk P w K mg base CX0 1 fRM _ ["self"] (spHasMore Cr K) := ok_hasMore FRM T
  have rRN : FnOk P w K mg base CX0 1 fRN _ ["self"] (spNumber Cr K) := ok_number FRN T
  have rRR : FnOk P w K mg base CX0 2 fRR _ ["self"] (spRow Cr K) := ok_row FRR T ⟨FRN, MRN.m⟩ BRN
  have rBL : FnOk P w K mg base CX0 1 fBL _ ["row"] spWithLen := ok_withLen FBL T
  have rBC : FnOk P w K mg base CX0 1 fBC _ ["plays", "before", "number"] (spChange Cp) := ok_change FBC T
  have rBW : FnOk P w K mg base CX0 2 fBW _ ["plays", "bill"] (spWork Cp) := ok_work FBW T ⟨FBC, MBC.g⟩ BBC
  have rBT : FnOk P w K mg base CX0 2 fBT _ ["come", "plays", "bill"] (spTakings Cp) := ok_takings FBT T ⟨FPK, MPK.m⟩ BPK
  have rBR : FnOk P w K mg base CX0 3 fBR _ ["come", "plays", "bill"] (spReck Cp) := ok_reck FBR T MBT.g MBT.k MBT.b rBT MBW.g MBW.k MBW.b rBW MBL.g MBL.k MBL.b rBL
  have rBN : FnOk P w K mg base CX0 1 fBN _ ["plays", "bill"] (spWrong wn Cp) := ok_wrongN FBN T
  have rBP : FnOk P w K mg base CX0 1 fBP _ ["plays", "bill"] (spWrong wpl Cp) := ok_wrongP FBP T
  have rBF : FnOk P w K mg base CX0 2 fBF _ ["plays", "bill"] (spWrong fw Cp) := ok_first FBF T MBN.g MBN.k MBN.b rBN MBP.g MBP.k MBP.b rBP
  have rQN : FnOk P w K mg base CX0 3 fQN _ [] (spNoWay Co) := ok_noWay FQN T mO
  have rQJ : FnOk P w K mg base CX0 3 fQJ _ ["found", "later"] (spJoined Co) := ok_joined FQJ T mO
  have rQM : FnOk P w K mg base CX0 1 fQM _ ["given", "number"] spOneMore := ok_oneMore FQM T
  have rSE : FnOk P w K mg base CX0 4 fSE _ ["self", "before", "given"] (spAtEnd Cs Cp Co) := ok_atEnd FSE T mO MQN.g MQN.k MQN.b rQN MBC.g MBC.k MBC.b rBC
  have L : Helps P w K mg base Cp Co Cs fOI fQN fBC fQM fPK fQJ fSE _ _ _ _ _ _ _ := ⟨mO, MQN, rQN, MBC, rBC, MQM, rQM, MPK, rPK, MQJ, rQJ, MSE, rSE⟩
  have rSO := onward_all (P := P) (w := w) (base := base) FSO MSO FSL MSL FSC MSC T L
  have rSW : FnOk P w K mg base CX0 25 fSW _ ["self"] (spWhole P w Cs Cp Co) := ok_whole FSW T MSO rSO
  have rHD : FnOk P w K mg base CX0 3 fHD _ [] (spDark Cp) := ok_dark FHD T mP
  have rHA : FnOk P w K mg base CX0 1 fHA _ ["come"] spAreN := ok_areN FHA T
  have rWI : FnOk P w K mg base CX0 4 fWI _ ["self"] (spWeekInit Cw Cp) := ok_weekInit FWI T MHD rHD
  have rWB : FnOk P w K mg base CX0 4 fWB _ ["self", "come"] (spBegins Cw Cp) := ok_begins FWB T MHD rHD MHA rHA
  have rWP : FnOk P w K mg base CX0 2 fWP _ ["self", "told"] (spPlay Cw Cp) := ok_play FWP T MPT rPT
  have rWL : FnOk P w K mg base CX0 1 fWL _ ["self", "bill"] (spIsBill Cw Cp) := ok_isBill FWL T
  have rWC : FnOk P w K mg base CX0 4 fWC _ ["self", "bill"] (spCheck Cw Cp) := ok_check FWC T MWL rWL MBF rBF MBL rBL MBR rBR
  have rWX : FnOk P w K mg base CX0 26 fWX _ ["self"] (spBest Cw Cp) := ok_best FWX T mS MSW rSW MBL rBL MBR rBR
  have rWN : FnOk P w K mg base CX0 1 fWN _ ["self", "place", "come"] (spNight Cw Cp) := ok_night FWN T
  have rWD : FnOk P w K mg base CX0 1 fWD _ ["self", "number"] (spDrop Cw Cp) := ok_drop FWD T
  have rAR : FnOk P w K mg base CX0 3 fAR _ ["reader"] (spReadPlay Cr Cp K) := ok_readPlay FAR T MRN rRN MRR rRR mP
  have LN : HelpsN P w K mg base Cp Cr Cw fRN fRR fAR fWB fWP fWX fWC fWN fWD _ _ _ _ _ _ _ _ _ := ⟨MRN, rRN, MRR, rRR, MAR, rAR, MWB, rWB, MWP, rWP, MWX, rWX, MWC, rWC, MWN, rWN, MWD, rWD⟩
  have rAN : FnOk P w K mg base CX0 27 fAN _ ["reader", "week"] (spNext Cw Cp Cr K) := ok_next FAN T LN
  have LA : HelpsA P w K mg base Cp Cr Cw fRI fWI fRM fAN _ _ _ _ := ⟨⟨mk_r, aRI, iRI, kc_r⟩, rRI, BRI, ⟨mk_w, aWI, iWI, kc_w⟩, rWI, BWI, MRM, rRM, MAN, rAN⟩
  exact ok_answers FAA T LA
end Wz
open PySem PySem.W PyProof.Rows
set_option maxRecDepth 100000 in
set_option maxHeartbeats 8000000 in
theorem PySem.Challenge.cw_weekplays_s01_answers_holds : PySem.Challenge.rw_weekplays_s01_answers.Holds := by
  w_on; k_headS; (case hw => exact ⟨[.list [.int 2]], by decide +kernel, by decide +kernel⟩)
  k_fillS
  refine L2.walk_specK (r := PySem.Challenge.rw_weekplays_s01_answers) (k := 28) (CX := L2.CX0) (ps := ["calls"]) (sp := Wd.spAnswers) (by decide +kernel) rfl rfl ⟨rfl, by decide, by decide⟩ (fun w h Y => PySem.W.kIn_of Y) ?F ?S (fun _ _ _ _ z => z)
  case F =>
    intro w mg fa h Y KX G hmg
    refine' Wz.all_mk KX G hmg ?g_p ?g_r ?g_o ?g_s ?g_w ?aPI ?iPI ?lPI ?cPI ?kPI ?aPT ?iPT ?lPT ?cPT ?kPT ?aPK ?iPK ?lPK ?cPK ?kPK ?aRI ?iRI ?lRI ?cRI ?kRI ?aRM ?iRM ?lRM ?cRM ?kRM ?aRN ?iRN ?lRN ?cRN ?kRN ?aRR ?iRR ?lRR ?cRR ?kRR ?aBF ?lBF ?cBF ?kBF ?aBN ?lBN ?cBN ?kBN ?aBP ?lBP ?cBP ?kBP ?aBT ?lBT ?cBT ?kBT ?aBC ?lBC ?cBC ?kBC ?aBW ?lBW ?cBW ?kBW ?aBR ?lBR ?cBR ?kBR ?aBL ?lBL ?cBL ?kBL ?aOI ?iOI ?lOI ?cOI ?kOI ?aSI ?iSI ?lSI ?cSI ?kSI ?aSW ?iSW ?lSW ?cSW ?kSW ?aSO ?iSO ?lSO ?cSO ?kSO ?aSL ?iSL ?lSL ?cSL ?kSL ?aSE ?iSE ?lSE ?cSE ?kSE ?aSC ?iSC ?lSC ?cSC ?kSC ?aQN ?lQN ?cQN ?kQN ?aQJ ?lQJ ?cQJ ?kQJ ?aQM ?lQM ?cQM ?kQM ?aWI ?iWI ?lWI ?cWI ?kWI ?aWB ?iWB ?lWB ?cWB ?kWB ?aWP ?iWP ?lWP ?cWP ?kWP ?aWX ?iWX ?lWX ?cWX ?kWX ?aWC ?iWC ?lWC ?cWC ?kWC ?aWL ?iWL ?lWL ?cWL ?kWL ?aWN ?iWN ?lWN ?cWN ?kWN ?aWD ?iWD ?lWD ?cWD ?kWD ?aHA ?lHA ?cHA ?kHA ?aHD ?lHD ?cHD ?kHD ?aAA ?lAA ?cAA ?kAA ?aAN ?lAN ?cAN ?kAN ?aAR ?lAR ?cAR ?kAR ?pg_p ?hd_p ?po_p ?sa_p ?mk_p ?kc_p ?pg_r ?hd_r ?po_r ?sa_r ?mk_r ?kc_r ?pg_o ?hd_o ?po_o ?sa_o ?mk_o ?kc_o ?pg_s ?hd_s ?po_s ?sa_s ?mk_s ?kc_s ?pg_w ?hd_w ?po_w ?sa_w ?mk_w ?kc_w ?n_np1 ?n_np2 ?n_np3 ?n_np4 ?n_np5 ?n_np6 ?n_nr1 ?n_nr2 ?n_no1 ?n_no2 ?n_no3 ?n_ns1 ?n_ns2 ?n_ns3 ?n_nw1 ?n_nw2 ?z_len ?z_max ?z_min ?z_range ?z_enumerate ?z_sum ?z_list ?t_kMoney ?t_kBrings ?t_kTwice ?t_kSeldom ?t_kOften ?t_kNights ?t_kCome ?t_kPlays ?t_kBegins ?t_kPlay ?t_kBest ?t_kCheck ?t_kNight ?t_kDrop
    (case g_p => k_is)
    (case g_r => k_is)
    (case g_o => k_is)
    (case g_s => k_is)
    (case g_w => k_is)
    (case aPI => k_is)
    (case iPI => k_is)
    (case lPI => k_is)
    (case cPI => k_is)
    (case kPI => k_is)
    (case aPT => k_is)
    (case iPT => k_is)
    (case lPT => k_is)
    (case cPT => k_is)
    (case kPT => k_is)
    (case aPK => k_is)
    (case iPK => k_is)
    (case lPK => k_is)
    (case cPK => k_is)
    (case kPK => k_is)
    (case aRI => k_is)
    (case iRI => k_is)
    (case lRI => k_is)
    (case cRI => k_is)
    (case kRI => k_is)
    (case aRM => k_is)
    (case iRM => k_is)
    (case lRM => k_is)
    (case cRM => k_is)
    (case kRM => k_is)
    (case aRN => k_is)
    (case iRN => k_is)
    (case lRN => k_is)
    (case cRN => k_is)
    (case kRN => k_is)
    (case aRR => k_is)
    (case iRR => k_is)
    (case lRR => k_is)
    (case cRR => k_is)
    (case kRR => k_is)
    (case aBF => k_is)
    (case lBF => k_is)
    (case cBF => k_is)
    (case kBF => k_is)
    (case aBN => k_is)
    (case lBN => k_is)
    (case cBN => k_is)
    (case kBN => k_is)
    (case aBP => k_is)
    (case lBP => k_is)
    (case cBP => k_is)
    (case kBP => k_is)
    (case aBT => k_is)
    (case lBT => k_is)
    (case cBT => k_is)
    (case kBT => k_is)
    (case aBC => k_is)
    (case lBC => k_is)
    (case cBC => k_is)
    (case kBC => k_is)
    (case aBW => k_is)
    (case lBW => k_is)
    (case cBW => k_is)
    (case kBW => k_is)
    (case aBR => k_is)
    (case lBR => k_is)
    (case cBR => k_is)
    (case kBR => k_is)
    (case aBL => k_is)
    (case lBL => k_is)
    (case cBL => k_is)
    (case kBL => k_is)
    (case aOI => k_is)
    (case iOI => k_is)
    (case lOI => k_is)
    (case cOI => k_is)
    (case kOI => k_is)
    (case aSI => k_is)
    (case iSI => k_is)
    (case lSI => k_is)
    (case cSI => k_is)
    (case kSI => k_is)
    (case aSW => k_is)
    (case iSW => k_is)
    (case lSW => k_is)
    (case cSW => k_is)
    (case kSW => k_is)
    (case aSO => k_is)
    (case iSO => k_is)
    (case lSO => k_is)
    (case cSO => k_is)
    (case kSO => k_is)
    (case aSL => k_is)
    (case iSL => k_is)
    (case lSL => k_is)
    (case cSL => k_is)
    (case kSL => k_is)
    (case aSE => k_is)
    (case iSE => k_is)
    (case lSE => k_is)
    (case cSE => k_is)
    (case kSE => k_is)
    (case aSC => k_is)
    (case iSC => k_is)
    (case lSC => k_is)
    (case cSC => k_is)
    (case kSC => k_is)
    (case aQN => k_is)
    (case lQN => k_is)
    (case cQN => k_is)
    (case kQN => k_is)
    (case aQJ => k_is)
    (case lQJ => k_is)
    (case cQJ => k_is)
    (case kQJ => k_is)
    (case aQM => k_is)
    (case lQM => k_is)
    (case cQM => k_is)
    (case kQM => k_is)
    (case aWI => k_is)
    (case iWI => k_is)
    (case lWI => k_is)
    (case cWI => k_is)
    (case kWI => k_is)
    (case aWB => k_is)
    (case iWB => k_is)
    (case lWB => k_is)
    (case cWB => k_is)
    (case kWB => k_is)
    (case aWP => k_is)
    (case iWP => k_is)
    (case lWP => k_is)
    (case cWP => k_is)
    (case kWP => k_is)
    (case aWX => k_is)
    (case iWX => k_is)
    (case lWX => k_is)
    (case cWX => k_is)
    (case kWX => k_is)
    (case aWC => k_is)
    (case iWC => k_is)
    (case lWC => k_is)
    (case cWC => k_is)
    (case kWC => k_is)
    (case aWL => k_is)
    (case iWL => k_is)
    (case lWL => k_is)
    (case cWL => k_is)
    (case kWL => k_is)
    (case aWN => k_is)
    (case iWN => k_is)
    (case lWN => k_is)
    (case cWN => k_is)
    (case kWN => k_is)
    (case aWD => k_is)
    (case iWD => k_is)
    (case lWD => k_is)
    (case cWD => k_is)
    (case kWD => k_is)
    (case aHA => k_is)
    (case lHA => k_is)
    (case cHA => k_is)
    (case kHA => k_is)
    (case aHD => k_is)
    (case lHD => k_is)
    (case cHD => k_is)
    (case kHD => k_is)
    (case aAA => k_is)
    (case lAA => k_is)
    (case cAA => k_is)
    (case kAA => k_is)
    (case aAN => k_is)
    (case lAN => k_is)
    (case cAN => k_is)
    (case kAN => k_is)
    (case aAR => k_is)
    (case lAR => k_is)
    (case cAR => k_is)
    (case kAR => k_is)
    (case pg_p => k_is)
    (case hd_p => k_is)
    (case po_p => k_is)
    (case sa_p => k_is)
    (case mk_p => k_is)
    (case kc_p => k_is)
    (case pg_r => k_is)
    (case hd_r => k_is)
    (case po_r => k_is)
    (case sa_r => k_is)
    (case mk_r => k_is)
    (case kc_r => k_is)
    (case pg_o => k_is)
    (case hd_o => k_is)
    (case po_o => k_is)
    (case sa_o => k_is)
    (case mk_o => k_is)
    (case kc_o => k_is)
    (case pg_s => k_is)
    (case hd_s => k_is)
    (case po_s => k_is)
    (case sa_s => k_is)
    (case mk_s => k_is)
    (case kc_s => k_is)
    (case pg_w => k_is)
    (case hd_w => k_is)
    (case po_w => k_is)
    (case sa_w => k_is)
    (case mk_w => k_is)
    (case kc_w => k_is)
    (case n_np1 => k_is)
    (case n_np2 => k_is)
    (case n_np3 => k_is)
    (case n_np4 => k_is)
    (case n_np5 => k_is)
    (case n_np6 => k_is)
    (case n_nr1 => k_is)
    (case n_nr2 => k_is)
    (case n_no1 => k_is)
    (case n_no2 => k_is)
    (case n_no3 => k_is)
    (case n_ns1 => k_is)
    (case n_ns2 => k_is)
    (case n_ns3 => k_is)
    (case n_nw1 => k_is)
    (case n_nw2 => k_is)
    (case z_len => k_is)
    (case z_max => k_is)
    (case z_min => k_is)
    (case z_range => k_is)
    (case z_enumerate => k_is)
    (case z_sum => k_is)
    (case z_list => k_is)
    (case t_kMoney => k_is)
    (case t_kBrings => k_is)
    (case t_kTwice => k_is)
    (case t_kSeldom => k_is)
    (case t_kOften => k_is)
    (case t_kNights => k_is)
    (case t_kCome => k_is)
    (case t_kPlays => k_is)
    (case t_kBegins => k_is)
    (case t_kPlay => k_is)
    (case t_kBest => k_is)
    (case t_kCheck => k_is)
    (case t_kNight => k_is)
    (case t_kDrop => k_is)
  case S =>
    intro K H xs a hO hwi hask hx
    cases hx with
    | cons h1 h2 =>
      cases h2
      cases h1 with
      | lst hs ha =>
        have e := L2.ints_dw a.1 _ ha
        subst e
        have hq : PyUw05.answers_asked a.1 = true := hask
        obtain ⟨cs, hl, hfew, he, hz⟩ := We.due hq
        rw [hl] at hs
        refine ⟨_, cs, rfl, hs, hfew, hz, fun H' p hp => ?_⟩
        rw [← he] at hp
        exact .lst (L2.SqL.of hp) (L2.dw_ints _)


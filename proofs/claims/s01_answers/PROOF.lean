import PyProof.Rows.All
import Wide.All
import OpenK.AllK
import Wide.FinOn
import PyProof.EqAt
import PyProof.EqKinds
import PyProof.TupleCall
import KE.BitLaws
import Open.SpecLaws
import KE.OsHead
import KE.OsGo
import KE.KDictList
import PySem.Challenge.RW_driftboxes_s01_answers
section
/-! Mathematics of the boxes, over the specification alone. -/
set_option Elab.async false
namespace Db
open Km444

/-! ## inside, full, meet, join -/
theorem full_iff {b : Box} : b.full = true ↔ b.w ≤ b.e ∧ b.s ≤ b.n := by
  simp [Box.full]
theorem inside_iff {a b : Box} : a.inside b = true ↔ b.w ≤ a.w ∧ a.e ≤ b.e ∧ b.s ≤ a.s ∧ a.n ≤ b.n := by
  simp [Box.inside]
theorem inside_refl (a : Box) : a.inside a = true := inside_iff.mpr ⟨Int.le_refl _, Int.le_refl _, Int.le_refl _, Int.le_refl _⟩
theorem inside_trans {a b c : Box} (h1 : a.inside b = true) (h2 : b.inside c = true) : a.inside c = true := by
  rw [inside_iff] at *; omega
theorem inside_join_l (a b : Box) : a.inside (a.join b) = true := by
  rw [inside_iff]; simp only [Box.join]; omega
theorem inside_join_r (a b : Box) : b.inside (a.join b) = true := by
  rw [inside_iff]; simp only [Box.join]; omega
theorem join_full {a b : Box} (ha : a.full = true) : (a.join b).full = true := by
  rw [full_iff] at *; simp only [Box.join]; omega

/-! ## less, as the program has it -/
def pSides (a m : Box) : List Box := [⟨a.w, m.w - 1, a.s, a.n⟩, ⟨m.e + 1, a.e, a.s, a.n⟩, ⟨m.w, m.e, a.s, m.s - 1⟩, ⟨m.w, m.e, m.n + 1, a.n⟩]
def pLess (a l : Box) : List Box := if (a.meet l).full = false then [a] else (pSides a (a.meet l)).filter Box.full

theorem filter_cons_congr {p : Box → Bool} {x y : Box} {l k : List Box} (h : (p x = false ∧ p y = false) ∨ x = y) (t : l.filter p = k.filter p) :
    (x :: l).filter p = (y :: k).filter p := by
  rcases h with ⟨h1, h2⟩ | h
  · rw [List.filter_cons_of_neg (by rw [h1]; decide), List.filter_cons_of_neg (by rw [h2]; decide)]; exact t
  · subst h
    rw [List.filter_cons, List.filter_cons, t]

theorem pLess_eq (a l : Box) : pLess a l = a.less l := by
  unfold pLess Box.less
  by_cases hm : (a.meet l).full = false
  · simp only [hm, if_true]
  · simp only [hm, pSides]
    have hf : (a.meet l).full = true := by revert hm; cases (a.meet l).full <;> simp
    rw [full_iff] at hf
    simp only [Box.meet] at hf ⊢
    have e1 : ∀ x y z v : Int, ¬ x ≤ y → Box.full ⟨x, y, z, v⟩ = false := fun x y z v h => by
      simp [Box.full, h]
    have e2 : ∀ x y z v : Int, ¬ z ≤ v → Box.full ⟨x, y, z, v⟩ = false := fun x y z v h => by
      simp [Box.full, h]
    refine filter_cons_congr ?_ (filter_cons_congr ?_ (filter_cons_congr ?_ (filter_cons_congr ?_ rfl)))
    · by_cases h : a.w < l.w
      · right; rw [Int.max_eq_right (by omega)]
      · left; exact ⟨e1 _ _ _ _ (by omega), e1 _ _ _ _ (by omega)⟩
    · by_cases h : l.e < a.e
      · right; rw [Int.min_eq_right (by omega)]
      · left; exact ⟨e1 _ _ _ _ (by omega), e1 _ _ _ _ (by omega)⟩
    · by_cases h : a.s < l.s
      · right; rw [Int.max_eq_right (a := a.s) (b := l.s) (by omega)]
      · left; exact ⟨e2 _ _ _ _ (by omega), e2 _ _ _ _ (by omega)⟩
    · by_cases h : l.n < a.n
      · right; rw [Int.min_eq_right (a := a.n) (b := l.n) (by omega)]
      · left; exact ⟨e2 _ _ _ _ (by omega), e2 _ _ _ _ (by omega)⟩

theorem less_length (a l : Box) : (a.less l).length ≤ 4 := by
  unfold Box.less
  by_cases h : (a.meet l).full = false
  · simp [h]
  · simp only [h]; exact Nat.le_trans (List.length_filter_le _ _) (by simp)
theorem less_full {a l b : Box} (ha : a.full = true) (hb : b ∈ a.less l) : b.full = true := by
  unfold Box.less at hb
  by_cases h : (a.meet l).full = false
  · simp [h] at hb; subst hb; exact ha
  · simp only [h] at hb; exact (List.mem_filter.mp hb).2
theorem less_inside {a l b : Box} (hb : b ∈ a.less l) : b.inside a = true := by
  rw [← pLess_eq] at hb
  unfold pLess at hb
  by_cases h : (a.meet l).full = false
  · simp [h] at hb; subst hb; exact inside_refl _
  · simp only [h] at hb
    have hf : (a.meet l).full = true := by revert h; cases (a.meet l).full <;> simp
    rw [full_iff] at hf
    obtain ⟨hm, hfb⟩ := List.mem_filter.mp hb
    simp only [Box.meet] at hf
    simp only [pSides, Box.meet, List.mem_cons, List.not_mem_nil, or_false] at hm
    rw [inside_iff]
    rw [full_iff] at hfb
    rcases hm with rfl | rfl | rfl | rfl <;> simp only at hfb ⊢ <;> omega

/-! ## dry -/
theorem dry_nil (l : List Box) : dry [] l = l := rfl
theorem dry_snoc (ls : List Box) (x : Box) (l : List Box) : dry (ls ++ [x]) l = (dry ls l).flatMap fun b => b.less x := by
  simp [dry, List.foldl_append]
theorem flatMap_length_le {f : Box → List Box} (h : ∀ b, (f b).length ≤ 4) : ∀ l : List Box, (l.flatMap f).length ≤ 4 * l.length
  | [] => by simp
  | b :: l => by
    have := flatMap_length_le h l
    have := h b
    simp only [List.flatMap_cons, List.length_append, List.length_cons]; omega
theorem dry_length : ∀ (ls l : List Box), (dry ls l).length ≤ 4 ^ ls.length * l.length
  | [], l => by simp [dry]
  | x :: ls, l => by
    have h1 := dry_length ls (l.flatMap fun b => b.less x)
    have h2 := flatMap_length_le (fun b => less_length b x) l
    have e : dry (x :: ls) l = dry ls (l.flatMap fun b => b.less x) := rfl
    rw [e]
    refine Nat.le_trans h1 ?_
    rw [List.length_cons, Nat.pow_succ, Nat.mul_assoc]
    exact Nat.mul_le_mul_left _ h2
theorem dry_all {p : Box → Prop} (hp : ∀ a l b, p a → b ∈ a.less l → p b) : ∀ (ls l : List Box), (∀ b ∈ l, p b) → ∀ b ∈ dry ls l, p b
  | [], l, h => h
  | x :: ls, l, h => by
    have e : dry (x :: ls) l = dry ls (l.flatMap fun b => b.less x) := rfl
    rw [e]
    refine dry_all hp ls _ fun b hb => ?_
    obtain ⟨a, ha, hb⟩ := List.mem_flatMap.mp hb
    exact hp a x b (h a ha) hb
theorem dry_full {ls l : List Box} (h : ∀ b ∈ l, b.full = true) : ∀ b ∈ dry ls l, b.full = true :=
  dry_all (p := fun b => b.full = true) (fun _ _ _ ha hb => less_full ha hb) ls l h

/-! ## tidy -/
theorem tidyGo_congr : ∀ (l k k' : List Box), (∀ x, x ∈ k ↔ x ∈ k') → tidyGo k l = tidyGo k' l
  | [], _, _, _ => rfl
  | b :: l, k, k', h => by
    have e : (k.any fun x => b.inside x) = (k'.any fun x => b.inside x) := by
      rw [Bool.eq_iff_iff, List.any_eq_true, List.any_eq_true]
      constructor
      · rintro ⟨x, hx, hh⟩; exact ⟨x, (h x).mp hx, hh⟩
      · rintro ⟨x, hx, hh⟩; exact ⟨x, (h x).mpr hx, hh⟩
    simp only [tidyGo, e]
    rw [tidyGo_congr l k k' h, tidyGo_congr l (b :: k) (b :: k') (fun x => by simp [h x])]
theorem tidyGo_sub : ∀ (l k : List Box) (b : Box), b ∈ tidyGo k l → b ∈ l
  | [], _, _, h => by simp [tidyGo] at h
  | a :: l, k, b, h => by
    simp only [tidyGo] at h
    split at h
    · exact List.mem_cons_of_mem _ (tidyGo_sub l k b h)
    · rcases List.mem_cons.mp h with rfl | h
      · exact List.mem_cons_self
      · exact List.mem_cons_of_mem _ (tidyGo_sub l _ b h)
theorem tidyGo_length : ∀ (l k : List Box), (tidyGo k l).length ≤ l.length
  | [], _ => by simp [tidyGo]
  | a :: l, k => by
    simp only [tidyGo]
    split
    · have := tidyGo_length l k; simp only [List.length_cons]; omega
    · have := tidyGo_length l (a :: k); simp only [List.length_cons]; omega
theorem tidy_sub {l : List Box} {b : Box} (h : b ∈ tidy l) : b ∈ l := tidyGo_sub l [] b h
theorem tidy_length (l : List Box) : (tidy l).length ≤ l.length := tidyGo_length l []
/-- no box in another -/
def Tid (l : List Box) : Prop := l.Pairwise fun a b => a.inside b = false ∧ b.inside a = false
theorem tidyGo_out : ∀ (l k : List Box) (b : Box), b ∈ tidyGo k l → ∀ x ∈ k, b.inside x = false
  | [], _, _, h, _, _ => by simp [tidyGo] at h
  | a :: l, k, b, h, x, hx => by
    simp only [tidyGo] at h
    split at h
    · exact tidyGo_out l k b h x hx
    · rename_i hc
      rcases List.mem_cons.mp h with rfl | h
      · cases e : b.inside x with
        | false => rfl
        | true => exact absurd (Or.inl (List.any_eq_true.mpr ⟨x, hx, e⟩)) hc
      · exact tidyGo_out l _ b h x (List.mem_cons_of_mem _ hx)
theorem tidyGo_tid : ∀ (l k : List Box), Tid (tidyGo k l)
  | [], _ => List.Pairwise.nil
  | a :: l, k => by
    simp only [tidyGo]
    split
    · exact tidyGo_tid l k
    · rename_i hc
      refine List.Pairwise.cons (fun b hb => ⟨?_, tidyGo_out l _ b hb a List.mem_cons_self⟩) (tidyGo_tid l _)
      cases e : a.inside b with
      | false => rfl
      | true => exact absurd (Or.inr (List.any_eq_true.mpr ⟨b, tidyGo_sub l _ b hb, e⟩)) hc
theorem tidy_tid (l : List Box) : Tid (tidy l) := tidyGo_tid l []
/-- a tidy list, and one more that is in none of them -/
theorem tidyGo_snoc (w : Box) : ∀ (l k : List Box), Tid l → (∀ a ∈ l, w.inside a = false) → (∀ a ∈ l, ∀ x ∈ k, a.inside x = false) → (∀ x ∈ k, w.inside x = false) →
    tidyGo k (l ++ [w]) = (l.filter fun a => !a.inside w) ++ [w]
  | [], k, _, _, _, hk => by
    have e : (k.any fun x => w.inside x) = false := by
      rw [List.any_eq_false]; intro x hx; rw [hk x hx]; decide
    simp [tidyGo, e]
  | a :: l, k, ht, hw, hak, hk => by
    have ht' := List.pairwise_cons.mp ht
    have e1 : (k.any fun x => a.inside x) = false := by
      rw [List.any_eq_false]; intro x hx; rw [hak a List.mem_cons_self x hx]; decide
    have e2 : ((l ++ [w]).any fun x => a.inside x) = a.inside w := by
      rw [List.any_append]
      have : (l.any fun x => a.inside x) = false := by
        rw [List.any_eq_false]; intro x hx; rw [(ht'.1 x hx).1]; decide
      rw [this]; simp
    have hw' : ∀ b ∈ l, w.inside b = false := fun b hb => hw b (List.mem_cons_of_mem _ hb)
    have e0 : a :: l ++ [w] = a :: (l ++ [w]) := rfl
    rw [e0]
    simp only [tidyGo, e1, e2]
    cases ew : a.inside w with
    | true =>
      simp only [Bool.false_eq_true, or_true, if_true]
      rw [tidyGo_snoc w l k ht'.2 hw' (fun b hb x hx => hak b (List.mem_cons_of_mem _ hb) x hx) hk]
      rw [List.filter_cons_of_neg (by rw [ew]; decide)]
    | false =>
      simp only [Bool.false_eq_true, or_self, if_false]
      rw [tidyGo_snoc w l (a :: k) ht'.2 hw' (fun b hb x hx => ?_) (fun x hx => ?_)]
      · rw [List.filter_cons_of_pos (by rw [ew]; decide)]; rfl
      · rcases List.mem_cons.mp hx with rfl | hx
        · exact (ht'.1 b hb).2
        · exact hak b (List.mem_cons_of_mem _ hb) x hx
      · rcases List.mem_cons.mp hx with rfl | hx
        · exact hw x List.mem_cons_self
        · exact hk x hx
theorem tidy_snoc {l : List Box} {w : Box} (ht : Tid l) (hw : ∀ a ∈ l, w.inside a = false) : tidy (l ++ [w]) = (l.filter fun a => !a.inside w) ++ [w] :=
  tidyGo_snoc w l [] ht hw (fun _ _ _ hx => absurd hx List.not_mem_nil) (fun _ hx => absurd hx List.not_mem_nil)
end Db
end
section
/-! At most four: the program's way (pairs kept from turn to turn) and the specification's. -/
set_option Elab.async false
namespace Db
open Km444

/-! ## the first of the least -/
theorem argmin {α : Type} (c : α → Int) (R : α → α → Prop) (tr : ∀ x y z, R x y → R y z → R x z) : ∀ (r : List α) (p : α), (p :: r).Pairwise R →
    (r.foldl (fun q x => if c x < c q then x else q) p) ∈ p :: r ∧ ∀ x ∈ p :: r, c (r.foldl (fun q x => if c x < c q then x else q) p) < c x ∨
      (c (r.foldl (fun q x => if c x < c q then x else q) p) = c x ∧ ((r.foldl (fun q x => if c x < c q then x else q) p) = x ∨ R (r.foldl (fun q x => if c x < c q then x else q) p) x))
  | [], p, _ => by
    refine ⟨List.mem_cons_self, fun x hx => ?_⟩
    rw [List.mem_singleton] at hx
    subst hx
    exact .inr ⟨rfl, .inl rfl⟩
  | y :: t, p, h => by
    obtain ⟨h1, h2⟩ := List.pairwise_cons.mp h
    obtain ⟨h3, h4⟩ := List.pairwise_cons.mp h2
    rw [List.foldl_cons]
    by_cases hc : c y < c p
    · rw [if_pos hc]
      obtain ⟨m, b⟩ := argmin c R tr t y h2
      refine ⟨List.mem_cons_of_mem _ m, fun x hx => ?_⟩
      rcases List.mem_cons.mp hx with rfl | hx
      · rcases b y List.mem_cons_self with q | ⟨q, _⟩
        · left; omega
        · left; omega
      · exact b x hx
    · rw [if_neg hc]
      have hp : (p :: t).Pairwise R := List.pairwise_cons.mpr ⟨fun x hx => h1 x (List.mem_cons_of_mem _ hx), h4⟩
      obtain ⟨m, b⟩ := argmin c R tr t p hp
      refine ⟨?_, fun x hx => ?_⟩
      · rcases List.mem_cons.mp m with e | m
        · rw [e]; exact List.mem_cons_self
        · exact List.mem_cons_of_mem _ (List.mem_cons_of_mem _ m)
      · rcases List.mem_cons.mp hx with rfl | hx
        · exact b x List.mem_cons_self
        · rcases List.mem_cons.mp hx with rfl | hx
          · rcases b p List.mem_cons_self with q | ⟨q, r⟩
            · left; omega
            · by_cases hx2 : c p < c x
              · left; omega
              · right
                refine ⟨by omega, .inr ?_⟩
                rcases r with r | r
                · rw [r]; exact h1 x List.mem_cons_self
                · exact tr _ _ _ r (h1 x List.mem_cons_self)
          · exact b x (List.mem_cons_of_mem _ hx)

/-! ## the pairs -/
def lex2 (a b : Nat × Nat) : Prop := a.1 < b.1 ∨ (a.1 = b.1 ∧ a.2 < b.2)
theorem lex2_tr (x y z : Nat × Nat) (h1 : lex2 x y) (h2 : lex2 y z) : lex2 x z := by
  unfold lex2 at *; omega
def rowOf (n i : Nat) : List (Nat × Nat) := ((List.range n).filter fun j => decide (i < j)).map fun j => (i, j)
theorem pairs_go (n : Nat) : ∀ is : List Nat, is.foldr (fun i r => ((List.range n).filter fun j => decide (i < j)).map (fun j => (i, j)) ++ r) [] = is.flatMap (rowOf n)
  | [] => rfl
  | i :: is => by rw [List.foldr_cons, pairs_go n is, List.flatMap_cons]; rfl
theorem pairs_eq (n : Nat) : pairs n = (List.range n).flatMap (rowOf n) := pairs_go n _
theorem mem_rowOf {n i : Nat} {x : Nat × Nat} : x ∈ rowOf n i ↔ x.1 = i ∧ i < x.2 ∧ x.2 < n := by
  unfold rowOf
  rw [List.mem_map]
  constructor
  · rintro ⟨j, hj, rfl⟩
    rw [List.mem_filter, List.mem_range] at hj
    exact ⟨rfl, of_decide_eq_true hj.2, hj.1⟩
  · rintro ⟨rfl, h1, h2⟩
    exact ⟨x.2, List.mem_filter.mpr ⟨List.mem_range.mpr h2, decide_eq_true h1⟩, rfl⟩
theorem mem_pairs {n : Nat} {x : Nat × Nat} : x ∈ pairs n ↔ x.1 < x.2 ∧ x.2 < n := by
  rw [pairs_eq, List.mem_flatMap]
  constructor
  · rintro ⟨i, hi, hx⟩
    have := mem_rowOf.mp hx
    rw [List.mem_range] at hi
    omega
  · intro h
    exact ⟨x.1, List.mem_range.mpr (by omega), mem_rowOf.mpr ⟨rfl, h.1, h.2⟩⟩
theorem rowOf_pw (n i : Nat) : (rowOf n i).Pairwise lex2 := by
  unfold rowOf
  rw [List.pairwise_map]
  exact (List.Pairwise.filter _ List.pairwise_lt_range).imp fun h => .inr ⟨rfl, h⟩
theorem rows_pw (n : Nat) : ∀ is : List Nat, is.Pairwise (· < ·) → (is.flatMap (rowOf n)).Pairwise lex2
  | [], _ => List.Pairwise.nil
  | i :: is, h => by
    obtain ⟨h1, h2⟩ := List.pairwise_cons.mp h
    rw [List.flatMap_cons, List.pairwise_append]
    refine ⟨rowOf_pw n i, rows_pw n is h2, fun x hx y hy => ?_⟩
    obtain ⟨j, hj, hy⟩ := List.mem_flatMap.mp hy
    have := h1 j hj
    have := mem_rowOf.mp hx
    have := mem_rowOf.mp hy
    left; omega
theorem pairs_pw (n : Nat) : (pairs n).Pairwise lex2 := by
  rw [pairs_eq]; exact rows_pw n _ List.pairwise_lt_range

/-! ## one turn of squeeze -/
def pc (l : List Box) (x : Nat × Nat) : Int := cost (l.getD x.1 zero) (l.getD x.2 zero)
def bestOf (l : List Box) : Nat × Nat := match pairs l.length with
  | [] => (0, 0)
  | p :: r => r.foldl (fun q x => if pc l x < pc l q then x else q) p
def restOf (l : List Box) (b : Nat × Nat) : List Box := ((List.range l.length).filter fun i => i != b.1 && i != b.2).map fun i => l.getD i zero
def joinOf (l : List Box) (b : Nat × Nat) : Box := (l.getD b.1 zero).join (l.getD b.2 zero)
theorem pairs_ne {n : Nat} (h : 1 < n) : pairs n ≠ [] := fun e => by
  have : ((0, 1) : Nat × Nat) ∈ pairs n := mem_pairs.mpr ⟨by decide, h⟩
  rw [e] at this
  exact absurd this List.not_mem_nil
theorem bestOf_is {l : List Box} (h : 1 < l.length) : bestOf l ∈ pairs l.length ∧ ∀ x ∈ pairs l.length, pc l (bestOf l) < pc l x ∨ (pc l (bestOf l) = pc l x ∧ (bestOf l = x ∨ lex2 (bestOf l) x)) := by
  unfold bestOf
  have pw := pairs_pw l.length
  cases e : pairs l.length with
  | nil => exact absurd e (pairs_ne h)
  | cons p r =>
    rw [e] at pw
    exact argmin (pc l) lex2 lex2_tr r p pw
theorem squeeze_turn (f : Nat) {l : List Box} (h : 4 < l.length) : squeeze (f + 1) l = squeeze f (tidy (restOf l (bestOf l) ++ [joinOf l (bestOf l)])) := by
  have hn : ¬ l.length ≤ BOXES := by unfold BOXES; omega
  rw [squeeze, if_neg hn]
  unfold bestOf
  cases e : pairs l.length with
  | nil => exact absurd e (pairs_ne (by omega))
  | cons p r => rfl
theorem squeeze_small (f : Nat) {l : List Box} (h : l.length ≤ 4) : squeeze f l = l := by
  cases f with
  | zero => rfl
  | succ f => rw [squeeze, if_pos (show l.length ≤ BOXES from h)]
theorem range_getD (l : List Box) : (List.range l.length).map (fun i => l.getD i zero) = l := by
  apply List.ext_getElem?
  intro i
  rw [List.getElem?_map]
  by_cases h : i < l.length
  · rw [List.getElem?_eq_getElem (by simpa using h), List.getElem_range, Option.map_some, List.getElem?_eq_getElem h, List.getD_eq_getElem?_getD, List.getElem?_eq_getElem h]; rfl
  · rw [List.getElem?_eq_none (by simpa using h), List.getElem?_eq_none (by omega)]; rfl
theorem restOf_len {l : List Box} {b : Nat × Nat} (h1 : b.1 < b.2) (h2 : b.2 < l.length) : (restOf l b).length + 2 ≤ l.length := by
  unfold restOf
  rw [List.length_map]
  have e : ((List.range l.length).filter fun i => i != b.1 && i != b.2) = ((List.range l.length).filter fun i => i != b.2).filter fun i => i != b.1 := by
    rw [List.filter_filter]
  rw [e]
  have a1 : ((List.range l.length).filter fun i => i != b.2).length < (List.range l.length).length :=
    List.length_filter_lt_length_iff_exists.mpr ⟨b.2, List.mem_range.mpr h2, by simp⟩
  have a2 : (((List.range l.length).filter fun i => i != b.2).filter fun i => i != b.1).length < ((List.range l.length).filter fun i => i != b.2).length :=
    List.length_filter_lt_length_iff_exists.mpr ⟨b.1, List.mem_filter.mpr ⟨List.mem_range.mpr (by omega), by simp; omega⟩, by simp⟩
  rw [List.length_range] at a1
  omega
theorem turn_len {l : List Box} (h : 4 < l.length) : (tidy (restOf l (bestOf l) ++ [joinOf l (bestOf l)])).length < l.length := by
  have hb := mem_pairs.mp (bestOf_is (l := l) (by omega)).1
  have h1 := restOf_len hb.1 hb.2
  have h2 := tidy_length (restOf l (bestOf l) ++ [joinOf l (bestOf l)])
  rw [List.length_append, List.length_singleton] at h2
  omega
theorem squeeze_fuel : ∀ (f g : Nat) (l : List Box), l.length ≤ f + 4 → l.length ≤ g + 4 → squeeze f l = squeeze g l
  | 0, g, l, h, _ => by rw [squeeze_small 0 (by omega), squeeze_small g (by omega)]
  | f + 1, g, l, h, h' => by
    by_cases hl : l.length ≤ 4
    · rw [squeeze_small _ hl, squeeze_small _ hl]
    · cases g with
      | zero => omega
      | succ g =>
        have ht := turn_len (l := l) (by omega)
        rw [squeeze_turn f (by omega), squeeze_turn g (by omega)]
        exact squeeze_fuel f g _ (by omega) (by omega)
/-- at most four, of tidy boxes -/
def sq (l : List Box) : List Box := squeeze l.length l
theorem squeezed_eq (l : List Box) : squeezed l = sq (tidy l) := rfl
theorem sq_small {l : List Box} (h : l.length ≤ 4) : sq l = l := squeeze_small _ h
theorem sq_turn {l : List Box} (h : 4 < l.length) : sq l = sq (tidy (restOf l (bestOf l) ++ [joinOf l (bestOf l)])) := by
  have ht := turn_len h
  unfold sq
  obtain ⟨n, e⟩ : ∃ n, l.length = n + 1 := ⟨l.length - 1, by omega⟩
  rw [e, squeeze_turn n h]
  exact squeeze_fuel _ _ _ (by omega) (by omega)
/-- places in a tidy list -/
theorem tid_at {l : List Box} (ht : Tid l) {i j : Nat} (hi : i < l.length) (hj : j < l.length) (hij : i ≠ j) : (l.getD i zero).inside (l.getD j zero) = false := by
  have g : ∀ k, (hk : k < l.length) → l.getD k zero = l[k] := fun k hk => by simp [List.getD_eq_getElem?_getD, List.getElem?_eq_getElem hk]
  rw [g i hi, g j hj]
  have := List.pairwise_iff_getElem.mp ht
  rcases Nat.lt_or_gt_of_ne hij with h | h
  · exact (this i j hi hj h).1
  · exact (this j i hj hi h).2
theorem turn_eq {l : List Box} (ht : Tid l) {b : Nat × Nat} (h1 : b.1 < b.2) (h2 : b.2 < l.length) :
    tidy (restOf l b ++ [joinOf l b]) = (l.filter fun a => !a.inside (joinOf l b)) ++ [joinOf l b] := by
  have sub : (restOf l b).Sublist l := by
    have := (List.filter_sublist (l := List.range l.length) (p := fun i => i != b.1 && i != b.2)).map (fun i => l.getD i zero)
    rw [range_getD] at this
    exact this
  have e := tidy_snoc (l := restOf l b) (w := joinOf l b) (List.Pairwise.sublist sub ht) (fun a ha => by
    obtain ⟨t, hm, rfl⟩ := List.mem_map.mp ha
    rw [List.mem_filter, List.mem_range] at hm
    have hne : t ≠ b.1 := by have := hm.2; simp at this; exact this.1
    cases q : (joinOf l b).inside (l.getD t zero) with
    | false => rfl
    | true =>
      have := inside_trans (inside_join_l (l.getD b.1 zero) (l.getD b.2 zero)) q
      rw [tid_at ht (by omega) hm.1 (Ne.symm hne)] at this
      exact absurd this (by decide))
  rw [e]
  congr 1
  have r := range_getD l
  have e1 : (l.filter fun a => !a.inside (joinOf l b)) = (((List.range l.length).filter fun i => !(l.getD i zero).inside (joinOf l b)).map fun i => l.getD i zero) := by
    have g : ∀ w : Box, (((List.range l.length).map fun i => l.getD i zero).filter fun a => !a.inside w) = (((List.range l.length).filter fun i => !(l.getD i zero).inside w).map fun i => l.getD i zero) := fun w => by
      rw [List.filter_map]; rfl
    have g' := g (joinOf l b)
    rw [r] at g'
    exact g'
  rw [e1]
  unfold restOf
  rw [List.filter_map, List.filter_filter]
  congr 1
  apply List.filter_congr
  intro t _
  show (!(l.getD t zero).inside (joinOf l b) && (t != b.1 && t != b.2)) = !(l.getD t zero).inside (joinOf l b)
  by_cases x1 : t = b.1
  · subst x1
    have : (l.getD b.1 zero).inside (joinOf l b) = true := inside_join_l _ _
    rw [this]; rfl
  · by_cases x2 : t = b.2
    · subst x2
      have : (l.getD b.2 zero).inside (joinOf l b) = true := inside_join_r _ _
      rw [this]; rfl
    · have y1 : (t != b.1) = true := by simpa using x1
      have y2 : (t != b.2) = true := by simpa using x2
      rw [y1, y2]; simp
/-- the one pair that is before all others -/
theorem best_unique {l : List Box} (h : 1 < l.length) {b : Nat × Nat} (hb : b ∈ pairs l.length) (hall : ∀ x ∈ pairs l.length, pc l b < pc l x ∨ (pc l b = pc l x ∧ (b = x ∨ lex2 b x))) : bestOf l = b := by
  obtain ⟨m, q⟩ := bestOf_is h
  have q1 := q b hb
  have q2 := hall _ m
  unfold lex2 at q1 q2
  rcases q1 with q1 | ⟨q1, q1' | q1'⟩
  · rcases q2 with q2 | ⟨q2, _⟩ <;> omega
  · exact q1'
  · rcases q2 with q2 | ⟨q2, q2' | q2'⟩
    · omega
    · exact q2'.symm
    · omega
theorem sq_step {l : List Box} (h : 4 < l.length) (ht : Tid l) {b : Nat × Nat} (hb : b ∈ pairs l.length) (hall : ∀ x ∈ pairs l.length, pc l b < pc l x ∨ (pc l b = pc l x ∧ (b = x ∨ lex2 b x))) :
    sq l = sq ((l.filter fun a => !a.inside (joinOf l b)) ++ [joinOf l b]) ∧ Tid ((l.filter fun a => !a.inside (joinOf l b)) ++ [joinOf l b]) ∧ ((l.filter fun a => !a.inside (joinOf l b)) ++ [joinOf l b]).length < l.length := by
  have e := best_unique (by omega) hb hall
  have m := mem_pairs.mp hb
  have te := turn_eq ht m.1 m.2
  have t1 := sq_turn h
  have t2 := turn_len h
  rw [e, te] at t1 t2
  exact ⟨t1, by rw [← te]; exact tidy_tid _, t2⟩
end Db
end
section
/-! The program's marks and pairs. -/
set_option Elab.async false
namespace Db
open Km444

/-- how many places, as the program reckons it -/
def amt (b : Box) : Int := (b.e - b.w + 1) * (b.n - b.s + 1)
theorem amt_eq {b : Box} (h : b.full = true) : amt b = (b.area : Int) := by
  rw [full_iff] at h
  unfold amt Box.area
  rw [Int.natCast_mul, Int.toNat_of_nonneg (by omega), Int.toNat_of_nonneg (by omega)]
def grow (a b : Box) : Int := amt (a.join b) - amt a - amt b
theorem grow_eq {a b : Box} (ha : a.full = true) (hb : b.full = true) : grow a b = cost a b := by
  unfold grow cost
  rw [amt_eq ha, amt_eq hb, amt_eq (join_full ha)]

abbrev T3 := Int × Int × Int
def lex3 (t u : T3) : Prop := t.1 < u.1 ∨ (t.1 = u.1 ∧ (t.2.1 < u.2.1 ∨ (t.2.1 = u.2.1 ∧ t.2.2 < u.2.2)))
/-- the boxes kept, each with its mark -/
abbrev Kp := List (Int × Box)
def Asc (K : Kp) (m : Int) : Prop := K.Pairwise (fun a b => a.1 < b.1) ∧ ∀ a ∈ K, a.1 < m
def Prs (K : Kp) (P : List T3) : Prop := ∀ t, t ∈ P ↔ ∃ a b, a ∈ K ∧ b ∈ K ∧ a.1 < b.1 ∧ t = (grow a.2 b.2, a.1, b.1)
def withB (K : Kp) (b : Box) (m : Int) : List T3 := K.map fun a => (grow a.2 b, a.1, m)

theorem asc_nil (m : Int) : Asc [] m := ⟨List.Pairwise.nil, fun _ h => absurd h List.not_mem_nil⟩
theorem prs_nil : Prs [] [] := fun t => by simp
theorem asc_snoc {K : Kp} {m : Int} (h : Asc K m) (b : Box) : Asc (K ++ [(m, b)]) (m + 1) := by
  refine ⟨List.pairwise_append.mpr ⟨h.1, List.pairwise_singleton _ _, fun a ha x hx => ?_⟩, fun a ha => ?_⟩
  · rw [List.mem_singleton] at hx; subst hx; exact h.2 a ha
  · rcases List.mem_append.mp ha with ha | ha
    · have := h.2 a ha; omega
    · rw [List.mem_singleton] at ha; subst ha; show m < m + 1; omega
theorem asc_filter {K : Kp} {m : Int} (h : Asc K m) (p : Int × Box → Bool) : Asc (K.filter p) m :=
  ⟨h.1.sublist List.filter_sublist, fun a ha => h.2 a (List.mem_filter.mp ha).1⟩
theorem prs_snoc {K : Kp} {m : Int} {P : List T3} (h : Asc K m) (hp : Prs K P) (b : Box) : Prs (K ++ [(m, b)]) (P ++ withB K b m) := by
  intro t
  rw [List.mem_append, hp t]
  constructor
  · rintro (⟨x, y, hx, hy, hl, e⟩ | ht)
    · exact ⟨x, y, List.mem_append_left _ hx, List.mem_append_left _ hy, hl, e⟩
    · obtain ⟨x, hx, rfl⟩ := List.mem_map.mp ht
      exact ⟨x, (m, b), List.mem_append_left _ hx, List.mem_append_right _ List.mem_cons_self, h.2 x hx, rfl⟩
  · rintro ⟨x, y, hx, hy, hl, rfl⟩
    rcases List.mem_append.mp hx with hx | hx
    · rcases List.mem_append.mp hy with hy | hy
      · exact .inl ⟨x, y, hx, hy, hl, rfl⟩
      · rw [List.mem_singleton] at hy
        subst hy
        exact .inr (List.mem_map.mpr ⟨x, hx, rfl⟩)
    · rw [List.mem_singleton] at hx
      subst hx
      rcases List.mem_append.mp hy with hy | hy
      · have := h.2 y hy
        simp only at hl
        omega
      · rw [List.mem_singleton] at hy
        subst hy
        simp only at hl
        omega
/-- a mark tells its box -/
theorem asc_inj {K : Kp} {m : Int} (h : Asc K m) {a b : Int × Box} (ha : a ∈ K) (hb : b ∈ K) (e : a.1 = b.1) : a = b := by
  obtain ⟨i, hi, rfl⟩ := List.getElem_of_mem ha
  obtain ⟨j, hj, rfl⟩ := List.getElem_of_mem hb
  have := List.pairwise_iff_getElem.mp h.1
  rcases Nat.lt_trichotomy i j with q | q | q
  · have := this i j hi hj q; omega
  · subst q; rfl
  · have := this j i hj hi q; omega
/-- the pairs whose two are still there -/
def still (K : Kp) (t : T3) : Bool := (K.any fun a => decide (a.1 = t.2.1)) && (K.any fun a => decide (a.1 = t.2.2))
theorem prs_filter {K : Kp} {m : Int} {P : List T3} (h : Asc K m) (hp : Prs K P) (p : Int × Box → Bool) : Prs (K.filter p) (P.filter (still (K.filter p))) := by
  intro t
  rw [List.mem_filter, hp t]
  constructor
  · rintro ⟨⟨x, y, hx, hy, hl, rfl⟩, hs⟩
    unfold still at hs
    rw [Bool.and_eq_true, List.any_eq_true, List.any_eq_true] at hs
    obtain ⟨⟨a, ha, ea⟩, b, hb, eb⟩ := hs
    have e1 := asc_inj h (List.mem_filter.mp ha).1 hx (of_decide_eq_true ea)
    have e2 := asc_inj h (List.mem_filter.mp hb).1 hy (of_decide_eq_true eb)
    subst e1 e2
    exact ⟨a, b, ha, hb, hl, rfl⟩
  · rintro ⟨x, y, hx, hy, hl, rfl⟩
    refine ⟨⟨x, y, (List.mem_filter.mp hx).1, (List.mem_filter.mp hy).1, hl, rfl⟩, ?_⟩
    unfold still
    rw [Bool.and_eq_true, List.any_eq_true, List.any_eq_true]
    exact ⟨⟨x, hx, decide_eq_true rfl⟩, y, hy, decide_eq_true rfl⟩

/-- what holds between two turns -/
structure Turn4 (goal : List Box) (K : Kp) (P : List T3) (m : Int) : Prop where
  asc : Asc K m
  prs : Prs K P
  tid : Tid (K.map (·.2))
  full : ∀ a ∈ K, a.2.full = true
  goal : sq (K.map (·.2)) = goal

theorem getD_map {K : Kp} {i : Nat} (h : i < K.length) : (K.map (·.2)).getD i zero = (K[i]).2 := by
  simp [List.getD_eq_getElem?_getD, List.getElem?_map, List.getElem?_eq_getElem h]

/-- the next boxes, the next pairs -/
def nextK (K : Kp) (w : Box) : Kp := K.filter fun a => !a.2.inside w
theorem turn4 {goal : List Box} {K : Kp} {P : List T3} {m : Int} (T : Turn4 goal K P m) (h4 : 4 < K.length) {t : T3} (ht : t ∈ P) (hmin : ∀ u ∈ P, t = u ∨ lex3 t u) {a b : Int × Box} (ha : a ∈ K) (hb : b ∈ K)
    (e1 : a.1 = t.2.1) (e2 : b.1 = t.2.2) :
    Turn4 goal (nextK K (a.2.join b.2) ++ [(m, a.2.join b.2)]) (P.filter (still (nextK K (a.2.join b.2))) ++ withB (nextK K (a.2.join b.2)) (a.2.join b.2) m) (m + 1) ∧
      (nextK K (a.2.join b.2) ++ [(m, a.2.join b.2)]).length < K.length := by
  obtain ⟨a', b', ha', hb', hlt, et⟩ := (T.prs t).mp ht
  have ea : a = a' := asc_inj T.asc ha ha' (by rw [e1, et])
  have eb : b = b' := asc_inj T.asc hb hb' (by rw [e2, et])
  subst ea eb
  obtain ⟨i, hi, rfl⟩ := List.getElem_of_mem ha
  obtain ⟨j, hj, rfl⟩ := List.getElem_of_mem hb
  have pw := List.pairwise_iff_getElem.mp T.asc.1
  have mono : ∀ i j (hi : i < K.length) (hj : j < K.length), (K[i]).1 < (K[j]).1 → i < j := fun i j hi hj q => by
    rcases Nat.lt_trichotomy i j with r | r | r
    · exact r
    · subst r; omega
    · have := pw j i hj hi r; omega
  have lij := mono i j hi hj hlt
  have ll : (K.map (·.2)).length = K.length := List.length_map _
  have jn : joinOf (K.map (·.2)) (i, j) = (K[i]).2.join (K[j]).2 := by
    unfold joinOf
    rw [getD_map hi, getD_map hj]
  have pcx : ∀ i j (hi : i < K.length) (hj : j < K.length), pc (K.map (·.2)) (i, j) = grow (K[i]).2 (K[j]).2 := fun i j hi hj => by
    unfold pc
    rw [getD_map hi, getD_map hj, grow_eq (T.full _ (List.getElem_mem hi)) (T.full _ (List.getElem_mem hj))]
  have st := sq_step (l := K.map (·.2)) (by rw [ll]; exact h4) T.tid (b := (i, j)) (mem_pairs.mpr ⟨lij, by rw [ll]; exact hj⟩) (fun x hx => by
    obtain ⟨x1, x2⟩ := x
    have mx := mem_pairs.mp hx
    rw [ll] at mx
    simp only at mx
    have hx1 : x1 < K.length := by omega
    have hx2 : x2 < K.length := mx.2
    have hu := hmin _ ((T.prs (grow (K[x1]).2 (K[x2]).2, (K[x1]).1, (K[x2]).1)).mpr ⟨K[x1], K[x2], List.getElem_mem hx1, List.getElem_mem hx2, pw x1 x2 hx1 hx2 mx.1, rfl⟩)
    rw [pcx i j hi hj, pcx x1 x2 hx1 hx2]
    have inj : ∀ p q (hp : p < K.length) (hq : q < K.length), (K[p]).1 = (K[q]).1 → p = q := fun p q hp hq e => by
      rcases Nat.lt_trichotomy p q with r | r | r
      · have := pw p q hp hq r; omega
      · exact r
      · have := pw q p hq hp r; omega
    rcases hu with hu | hu
    · rw [et] at hu
      have q1 := congrArg (fun z : T3 => z.2.1) hu
      have q2 := congrArg (fun z : T3 => z.2.2) hu
      have q0 := congrArg (fun z : T3 => z.1) hu
      simp only at q0 q1 q2
      right
      exact ⟨q0, .inl (by rw [inj i x1 hi hx1 q1, inj j x2 hj hx2 q2])⟩
    · rw [et] at hu
      unfold lex3 at hu
      simp only at hu
      rcases hu with hu | ⟨q0, hu⟩
      · left; exact hu
      · right
        refine ⟨q0, .inr ?_⟩
        unfold lex2
        rcases hu with hu | ⟨q1, hu⟩
        · left; exact mono i x1 hi hx1 hu
        · right; exact ⟨inj i x1 hi hx1 q1, mono j x2 hj hx2 hu⟩)
  rw [jn] at st
  generalize ew : (K[i]).2.join (K[j]).2 = w at st ⊢
  have ef : ((K.map (·.2)).filter fun a => !a.inside w) = (nextK K w).map (·.2) := by
    unfold nextK
    rw [List.filter_map]; rfl
  have em : (nextK K w ++ [(m, w)]).map (·.2) = ((K.map (·.2)).filter fun a => !a.inside w) ++ [w] := by
    rw [List.map_append, ef]; rfl
  have asc' := asc_filter T.asc (fun a => !a.2.inside w)
  refine ⟨⟨asc_snoc asc' w, prs_snoc asc' (prs_filter T.asc T.prs _) w, by rw [em]; exact st.2.1, fun x hx => ?_, by rw [em, ← st.1]; exact T.goal⟩, ?_⟩
  · rcases List.mem_append.mp hx with hx | hx
    · exact T.full x (List.mem_filter.mp hx).1
    · rw [List.mem_singleton] at hx
      subst hx
      show w.full = true
      rw [← ew]
      exact join_full (T.full _ (List.getElem_mem hi))
  · have q := st.2.2
    rw [← em, List.length_map, ll] at q
    exact q
theorem turn4_end {goal : List Box} {K : Kp} {P : List T3} {m : Int} (T : Turn4 goal K P m) (h4 : K.length ≤ 4) : K.map (·.2) = goal := by
  rw [← T.goal, sq_small (by rw [List.length_map]; exact h4)]
/-- how it begins -/
def markFrom : Int → List Box → Kp
  | _, [] => []
  | m, b :: l => (m, b) :: markFrom (m + 1) l
theorem markFrom_map : ∀ (l : List Box) (m : Int), (markFrom m l).map (·.2) = l
  | [], _ => rfl
  | b :: l, m => by rw [markFrom, List.map_cons, markFrom_map l]
theorem markFrom_snoc : ∀ (l : List Box) (m : Int) (b : Box), markFrom m (l ++ [b]) = markFrom m l ++ [(m + l.length, b)]
  | [], m, b => by simp [markFrom]
  | a :: l, m, b => by
    show (m, a) :: markFrom (m + 1) (l ++ [b]) = (m, a) :: (markFrom (m + 1) l ++ [(m + ((a :: l).length : Nat), b)])
    rw [markFrom_snoc l (m + 1) b]
    have : m + 1 + (l.length : Int) = m + ((a :: l).length : Nat) := by rw [List.length_cons]; omega
    rw [this]
def pairsUp : List Box → List T3
  | l => (List.range l.length).flatMap fun i => withB (markFrom 0 (l.take i)) (l.getD i zero) i
theorem asc_markFrom : ∀ (l : List Box) (m : Int), (∀ a ∈ markFrom m l, m ≤ a.1 ∧ a.1 < m + l.length) ∧ (markFrom m l).Pairwise fun a b => a.1 < b.1
  | [], m => ⟨fun _ h => absurd h List.not_mem_nil, List.Pairwise.nil⟩
  | b :: l, m => by
    obtain ⟨h1, h2⟩ := asc_markFrom l (m + 1)
    refine ⟨fun a ha => ?_, List.pairwise_cons.mpr ⟨fun a ha => ?_, h2⟩⟩
    · rw [List.length_cons]
      rcases List.mem_cons.mp ha with rfl | ha
      · simp only; omega
      · have := h1 a ha; omega
    · have := h1 a ha
      simp only; omega
theorem asc_mark (l : List Box) : Asc (markFrom 0 l) l.length := by
  obtain ⟨h1, h2⟩ := asc_markFrom l 0
  exact ⟨h2, fun a ha => by have := h1 a ha; omega⟩
theorem turn4_start {l : List Box} {P : List T3} (ht : Tid l) (hf : ∀ b ∈ l, b.full = true) (hp : Prs (markFrom 0 l) P) : Turn4 (sq l) (markFrom 0 l) P l.length :=
  ⟨asc_mark l, hp, by rw [markFrom_map]; exact ht, fun a ha => hf _ (by
    have : a.2 ∈ (markFrom 0 l).map (·.2) := List.mem_map.mpr ⟨a, ha, rfl⟩
    rw [markFrom_map] at this
    exact this), by rw [markFrom_map]⟩
end Db
end
section
/-! What holds of a sea; hours; bounds. -/
set_option Elab.async false
namespace Db
open Km444

/-- full, and within B any way -/
structure Bd (B : Int) (b : Box) : Prop where
  f1 : b.w ≤ b.e
  f2 : b.s ≤ b.n
  w : -B ≤ b.w
  e : b.e ≤ B
  s : -B ≤ b.s
  n : b.n ≤ B
theorem Bd.full {B : Int} {b : Box} (h : Bd B b) : b.full = true := full_iff.mpr ⟨h.f1, h.f2⟩
theorem Bd.mono {B C : Int} {b : Box} (h : Bd B b) (hc : B ≤ C) : Bd C b := ⟨h.f1, h.f2, by have := h.w; omega, by have := h.e; omega, by have := h.s; omega, by have := h.n; omega⟩
theorem okBox_iff {f : Int} {b : Box} : okBox f b = true ↔ Bd f b := by
  unfold okBox
  simp only [Bool.and_eq_true, decide_eq_true_eq, full_iff]
  constructor
  · rintro ⟨⟨a, b⟩, c, d, e, f⟩; exact ⟨a, b, c, d, e, f⟩
  · rintro ⟨a, b, c, d, e, f⟩; exact ⟨⟨a, b⟩, c, d, e, f⟩
theorem Bd.less {B : Int} {a l b : Box} (h : Bd B a) (hb : b ∈ a.less l) : Bd B b := by
  have h1 := full_iff.mp (less_full h.full hb)
  have h2 := inside_iff.mp (less_inside hb)
  obtain ⟨_, _, _, _, _, _⟩ := h
  exact ⟨h1.1, h1.2, by omega, by omega, by omega, by omega⟩
theorem Bd.join {B : Int} {a b : Box} (h : Bd B a) (h' : Bd B b) : Bd B (a.join b) := by
  obtain ⟨_, _, _, _, _, _⟩ := h
  obtain ⟨_, _, _, _, _, _⟩ := h'
  unfold Box.join
  constructor <;> simp only <;> omega
theorem Bd.meet {B : Int} {a b : Box} (h : Bd B a) (hf : (a.meet b).full = true) : Bd B (a.meet b) := by
  obtain ⟨_, _, _, _, _, _⟩ := h
  have := full_iff.mp hf
  unfold Box.meet at *
  constructor <;> simp only at * <;> omega
theorem Bd.plus {B C : Int} {a d : Box} (h : Bd B a) (h' : Bd C d) : Bd (B + C) (a.plus d) := by
  obtain ⟨_, _, _, _, _, _⟩ := h
  obtain ⟨_, _, _, _, _, _⟩ := h'
  unfold Box.plus
  constructor <;> simp only <;> omega
theorem Bd.zero {B : Int} (h : 0 ≤ B) : Bd B Km444.zero := by
  unfold Km444.zero; constructor <;> simp only <;> omega

theorem dry_bd {B : Int} {ls l : List Box} (h : ∀ b ∈ l, Bd B b) : ∀ b ∈ dry ls l, Bd B b :=
  dry_all (p := Bd B) (fun _ _ _ ha hb => ha.less hb) ls l h
theorem tidy_bd {B : Int} {l : List Box} (h : ∀ b ∈ l, Bd B b) : ∀ b ∈ tidy l, Bd B b := fun b hb => h b (tidy_sub hb)
theorem getD_bd {B : Int} {l : List Box} (h : ∀ b ∈ l, Bd B b) {i : Nat} (hi : i < l.length) : Bd B (l.getD i Km444.zero) := by
  rw [List.getD_eq_getElem?_getD, List.getElem?_eq_getElem hi]; exact h _ (List.getElem_mem hi)
theorem restOf_sub {l : List Box} {b : Nat × Nat} {a : Box} (h : a ∈ restOf l b) : a ∈ l := by
  have sub := (List.filter_sublist (l := List.range l.length) (p := fun i => i != b.1 && i != b.2)).map (fun i => l.getD i Km444.zero)
  rw [range_getD] at sub
  exact sub.subset h
theorem squeeze_bd {B : Int} : ∀ (f : Nat) (l : List Box), (∀ b ∈ l, Bd B b) → ∀ b ∈ squeeze f l, Bd B b
  | 0, _, h => h
  | f + 1, l, h => by
    by_cases hl : l.length ≤ 4
    · rw [squeeze_small _ hl]; exact h
    · rw [squeeze_turn f (by omega)]
      refine squeeze_bd f _ (tidy_bd fun b hb => ?_)
      have m := mem_pairs.mp (bestOf_is (l := l) (by omega)).1
      rcases List.mem_append.mp hb with hb | hb
      · exact h b (restOf_sub hb)
      · rw [List.mem_singleton] at hb
        subst hb
        exact (getD_bd h (by omega)).join (getD_bd h m.2)
theorem squeeze_len : ∀ (f : Nat) (l : List Box), l.length ≤ f + 4 → (squeeze f l).length ≤ 4
  | 0, l, h => by rw [squeeze_small 0 (by omega)]; omega
  | f + 1, l, h => by
    by_cases hl : l.length ≤ 4
    · rw [squeeze_small _ hl]; exact hl
    · rw [squeeze_turn f (by omega)]
      have ht := turn_len (l := l) (by omega)
      exact squeeze_len f _ (by omega)
theorem squeezed_bd {B : Int} {l : List Box} (h : ∀ b ∈ l, Bd B b) : ∀ b ∈ squeezed l, Bd B b := squeeze_bd _ _ (tidy_bd h)
theorem squeezed_len (l : List Box) : (squeezed l).length ≤ 4 := squeeze_len _ _ (by omega)
/-- whatever is left out is in one that is kept -/
theorem tidyGo_cover : ∀ (l k : List Box) (x : Box), x ∈ l → ∃ y, (y ∈ k ∨ y ∈ tidyGo k l) ∧ x.inside y = true
  | [], _, _, h => absurd h List.not_mem_nil
  | a :: l, k, x, h => by
    simp only [tidyGo]
    split
    · rename_i hc
      rcases List.mem_cons.mp h with rfl | h
      · rcases hc with hc | hc
        · obtain ⟨y, hy, e⟩ := List.any_eq_true.mp hc
          exact ⟨y, .inl hy, e⟩
        · obtain ⟨y, hy, e⟩ := List.any_eq_true.mp hc
          obtain ⟨z, hz, e2⟩ := tidyGo_cover l k y hy
          exact ⟨z, hz, inside_trans e e2⟩
      · exact tidyGo_cover l k x h
    · rcases List.mem_cons.mp h with rfl | h
      · exact ⟨x, .inr List.mem_cons_self, inside_refl x⟩
      · obtain ⟨z, hz, e⟩ := tidyGo_cover l (a :: k) x h
        rcases hz with hz | hz
        · rcases List.mem_cons.mp hz with rfl | hz
          · exact ⟨z, .inr List.mem_cons_self, e⟩
          · exact ⟨z, .inl hz, e⟩
        · exact ⟨z, .inr (List.mem_cons_of_mem _ hz), e⟩
theorem tidy_ne {l : List Box} (h : l ≠ []) : tidy l ≠ [] := fun e => by
  obtain ⟨x, r, rfl⟩ := List.exists_cons_of_ne_nil h
  obtain ⟨y, hy, _⟩ := tidyGo_cover (x :: r) [] x List.mem_cons_self
  rcases hy with hy | hy
  · exact absurd hy List.not_mem_nil
  · unfold tidy at e
    rw [e] at hy
    exact absurd hy List.not_mem_nil
theorem squeeze_ne : ∀ (f : Nat) (l : List Box), l ≠ [] → squeeze f l ≠ []
  | 0, _, h => h
  | f + 1, l, h => by
    by_cases hl : l.length ≤ 4
    · rw [squeeze_small _ hl]; exact h
    · rw [squeeze_turn f (by omega)]
      exact squeeze_ne f _ (tidy_ne (by simp))
theorem squeezed_ne {l : List Box} (h : l ≠ []) : squeezed l ≠ [] := squeeze_ne _ _ (tidy_ne h)
theorem squeezed_nil : squeezed [] = [] := rfl
theorem squeezed_nil_iff {l : List Box} : squeezed l = [] ↔ l = [] :=
  ⟨fun h => Classical.byContradiction fun q => squeezed_ne q h, fun h => by rw [h]; rfl⟩

/-! ## the drift -/
def lowT (a b lo hi : Int) : Int := min (min (a * lo) (a * hi)) (min (b * lo) (b * hi)) / 100
def highT (a b lo hi : Int) : Int := -(-(max (max (a * lo) (a * hi)) (max (b * lo) (b * hi))) / 100)
theorem div_min (x y : Int) : min x y / 100 = min (x / 100) (y / 100) := by omega
theorem div_max (x y : Int) : -(-(max x y) / 100) = max (-(-x / 100)) (-(-y / 100)) := by omega
theorem lowT_eq (a b : Int) (lo hi : Nat) : lowT a b lo hi = (leeway lo hi a b).1 := by
  unfold lowT leeway
  simp only
  rw [div_min, div_min, div_min]
theorem highT_eq (a b : Int) (lo hi : Nat) : highT a b lo hi = (leeway lo hi a b).2 := by
  unfold highT leeway
  simp only
  rw [div_max, div_max, div_max]
theorem mul_bd {a : Int} {k : Nat} (h1 : -1000 ≤ a) (h2 : a ≤ 1000) (hk : k ≤ 20) : -20000 ≤ a * k ∧ a * k ≤ 20000 := by
  have hk0 : (0 : Int) ≤ k := Int.natCast_nonneg _
  have hk' : (k : Int) ≤ 20 := by omega
  have e1 : a * k ≤ 1000 * k := Int.mul_le_mul_of_nonneg_right h2 hk0
  have e2 : -1000 * k ≤ a * k := Int.mul_le_mul_of_nonneg_right h1 hk0
  omega
theorem drift_bd {c v : Box} {lo hi : Nat} (hc : Bd 100 c) (hv : Bd 1000 v) (h1 : lo ≤ hi) (h2 : hi ≤ 20) : Bd 300 (drift c v lo hi) := by
  have m : ∀ {a : Int} {k : Nat}, -1000 ≤ a → a ≤ 1000 → k ≤ 20 → -20000 ≤ a * (k : Int) ∧ a * (k : Int) ≤ 20000 := fun h1 h2 h3 => mul_bd h1 h2 h3
  obtain ⟨a1, a2, a3, a4, a5, a6⟩ := hv
  have w1 := m (k := lo) (a := v.w) (by omega) (by omega) (by omega)
  have w2 := m (k := hi) (a := v.w) (by omega) (by omega) (by omega)
  have w3 := m (k := lo) (a := v.e) (by omega) (by omega) (by omega)
  have w4 := m (k := hi) (a := v.e) (by omega) (by omega) (by omega)
  have s1 := m (k := lo) (a := v.s) (by omega) (by omega) (by omega)
  have s2 := m (k := hi) (a := v.s) (by omega) (by omega) (by omega)
  have s3 := m (k := lo) (a := v.n) (by omega) (by omega) (by omega)
  have s4 := m (k := hi) (a := v.n) (by omega) (by omega) (by omega)
  have e : (300 : Int) = 100 + 200 := rfl
  rw [e]
  unfold drift
  refine hc.plus ?_
  simp only [leeway]
  generalize v.w * (lo : Int) = x1 at *
  generalize v.w * (hi : Int) = x2 at *
  generalize v.e * (lo : Int) = x3 at *
  generalize v.e * (hi : Int) = x4 at *
  generalize v.s * (lo : Int) = y1 at *
  generalize v.s * (hi : Int) = y2 at *
  generalize v.n * (lo : Int) = y3 at *
  generalize v.n * (hi : Int) = y4 at *
  constructor <;> simp only <;> omega

/-! ## a sea -/
def edge (hour : Nat) : Int := 1000000 + 300 * (hour : Int)
structure SeaOk (s : Sea) : Prop where
  ne : s.boxes ≠ []
  le4 : s.boxes.length ≤ 4
  bd : ∀ b ∈ s.boxes, Bd (edge s.hour) b
  l4 : s.lands.length ≤ 4
  lbd : ∀ b ∈ s.lands, Bd 1000000 b
  cur : Bd 100 s.current
  win : Bd 1000 s.wind
  lohi : s.lo ≤ s.hi
  hi20 : s.hi ≤ 20
  hr : s.hour ≤ 1000
/-- the boxes an hour later -/
def hourOn (s : Sea) (l : List Box) : List Box := s.keep (l.map fun b => b.plus (drift s.current s.wind s.lo s.hi))
def hoursOn (s : Sea) : Nat → List Box → List Box
  | 0, l => l
  | n + 1, l => hoursOn s n (hourOn s l)
theorem hoursOn_congr {s t : Sea} (h1 : s.lands = t.lands) (h2 : s.current = t.current) (h3 : s.wind = t.wind) (h4 : s.lo = t.lo) (h5 : s.hi = t.hi) : ∀ (n : Nat) (l : List Box), hoursOn s n l = hoursOn t n l
  | 0, _ => rfl
  | n + 1, l => by
    rw [hoursOn, hoursOn, hoursOn_congr h1 h2 h3 h4 h5 n]
    unfold hourOn Sea.keep
    rw [h1, h2, h3, h4, h5]
theorem hours_eq : ∀ (n : Nat) (s : Sea), s.hours n = { s with boxes := hoursOn s n s.boxes, hour := s.hour + n }
  | 0, s => rfl
  | n + 1, s => by
    rw [Sea.hours, hours_eq n s.after]
    have e : hoursOn s.after n s.after.boxes = hoursOn s (n + 1) s.boxes := by
      rw [hoursOn, hoursOn_congr (s := s.after) (t := s) rfl rfl rfl rfl rfl n]; rfl
    rw [e]
    have e2 : s.after.hour + n = s.hour + (n + 1) := by show s.hour + 1 + n = _; omega
    rw [e2]; rfl
theorem hoursOn_snoc (s : Sea) : ∀ (n : Nat) (l : List Box), hoursOn s (n + 1) l = hourOn s (hoursOn s n l)
  | 0, _ => rfl
  | n + 1, l => by
    rw [hoursOn, hoursOn_snoc s n]; rfl
theorem hourOn_bd {s : Sea} {B : Int} {l : List Box} (hs : SeaOk s) (h : ∀ b ∈ l, Bd B b) : ∀ b ∈ hourOn s l, Bd (B + 300) b := by
  refine squeezed_bd (dry_bd fun b hb => ?_)
  obtain ⟨a, ha, rfl⟩ := List.mem_map.mp hb
  exact (h a ha).plus (drift_bd hs.cur hs.win hs.lohi hs.hi20)
theorem hourOn_len (s : Sea) (l : List Box) : (hourOn s l).length ≤ 4 := squeezed_len _
theorem hoursOn_len {s : Sea} (h : s.boxes.length ≤ 4) (n : Nat) : (hoursOn s n s.boxes).length ≤ 4 := by
  cases n with
  | zero => exact h
  | succ n => rw [hoursOn_snoc]; exact hourOn_len s _
theorem hoursOn_bd {s : Sea} {B : Int} {l : List Box} (hs : SeaOk s) (h : ∀ b ∈ l, Bd B b) : ∀ (n : Nat), ∀ b ∈ hoursOn s n l, Bd (B + 300 * (n : Int)) b
  | 0 => fun b hb => (h b hb).mono (by omega)
  | n + 1 => fun b hb => by
    rw [hoursOn_snoc] at hb
    exact (hourOn_bd hs (hoursOn_bd hs h n) b hb).mono (by omega)

/-! ## narrow -/
theorem narrow_eq (s : Sea) (b : Box) : s.narrow b = tidy ((s.boxes.map fun x => x.meet b).filter Box.full) := rfl
theorem tidy_nil_iff {l : List Box} : tidy l = [] ↔ l = [] :=
  ⟨fun h => Classical.byContradiction fun q => tidy_ne q h, fun h => by rw [h]; rfl⟩
theorem narrow_bd {s : Sea} {b : Box} {B : Int} (h : ∀ x ∈ s.boxes, Bd B x) : ∀ x ∈ s.narrow b, Bd B x := tidy_bd fun x hx => by
  obtain ⟨h1, h2⟩ := List.mem_filter.mp hx
  obtain ⟨a, ha, rfl⟩ := List.mem_map.mp h1
  exact (h a ha).meet h2
theorem narrow_len {s : Sea} {b : Box} (h : s.boxes.length ≤ 4) : (s.narrow b).length ≤ 4 := by
  refine Nat.le_trans (tidy_length _) (Nat.le_trans (List.length_filter_le _ _) ?_)
  rw [List.length_map]; exact h

/-! ## every call keeps a sea a sea -/
theorem ok_opened {b : Box} {lo hi : Nat} (h : okStart b lo hi = true) : SeaOk (opened b lo hi) := by
  unfold okStart at h
  simp only [Bool.and_eq_true, decide_eq_true_eq] at h
  have hb := okBox_iff.mp h.1
  refine ⟨by simp [opened], by simp [opened], fun x hx => ?_, by simp [opened], fun x hx => absurd hx List.not_mem_nil, Bd.zero (by omega), Bd.zero (by omega), h.2.1, h.2.2, by simp [opened]⟩
  have : x = b := by simpa [opened] using hx
  subst this
  exact hb.mono (by unfold edge FAR; omega)
structure DeskOk (d : Desk) : Prop where
  now : SeaOk d.now
  past : ∀ s ∈ d.past, SeaOk s
  future : ∀ s ∈ d.future, SeaOk s
  p20 : d.past.length ≤ 20
theorem DeskOk.become {d : Desk} {s : Sea} (h : DeskOk d) (hs : SeaOk s) : DeskOk (d.become s) := by
  refine ⟨hs, fun x hx => ?_, fun x hx => absurd hx List.not_mem_nil, ?_⟩
  · have : x ∈ d.now :: d.past := List.mem_of_mem_take hx
    rcases List.mem_cons.mp this with rfl | q
    · exact h.now
    · exact h.past x q
  · show ((d.now :: d.past).take PAST).length ≤ 20
    rw [List.length_take]; exact Nat.min_le_left _ _
theorem act_ok {d : Desk} (h : DeskOk d) (c : Call) : DeskOk (act d c).1 := by
  obtain ⟨hn, hp, hf, h20⟩ := h
  have h : DeskOk d := ⟨hn, hp, hf, h20⟩
  cases c with
  | start w e s n lo hi =>
    simp only [act]
    split
    · exact h
    · rename_i q
      have q : okStart ⟨w, e, s, n⟩ lo hi = true := by revert q; cases okStart ⟨w, e, s, n⟩ lo hi <;> simp
      exact ⟨ok_opened q, fun _ z => absurd z List.not_mem_nil, fun _ z => absurd z List.not_mem_nil, by simp⟩
  | land w e s n =>
    simp only [act]
    split
    · exact h
    · rename_i q
      have q : okBox FAR ⟨w, e, s, n⟩ = true := by revert q; cases okBox FAR ⟨w, e, s, n⟩ <;> simp
      split
      · exact h
      · rename_i q2
        split
        · exact h
        · rename_i q3
          refine h.become ⟨squeezed_ne q3, squeezed_len _, squeezed_bd (dry_bd hn.bd), ?_, fun x hx => ?_, hn.cur, hn.win, hn.lohi, hn.hi20, hn.hr⟩
          · show (d.now.lands ++ [_]).length ≤ 4
            unfold SHORES at q2
            rw [List.length_append, List.length_singleton]; omega
          · rcases List.mem_append.mp hx with hx | hx
            · exact hn.lbd x hx
            · rw [List.mem_singleton] at hx; subst hx; exact okBox_iff.mp q
  | current w e s n =>
    simp only [act]
    split
    · exact h
    · rename_i q
      have q : okBox 100 ⟨w, e, s, n⟩ = true := by revert q; cases okBox 100 ⟨w, e, s, n⟩ <;> simp
      exact h.become ⟨hn.ne, hn.le4, hn.bd, hn.l4, hn.lbd, okBox_iff.mp q, hn.win, hn.lohi, hn.hi20, hn.hr⟩
  | wind w e s n =>
    simp only [act]
    split
    · exact h
    · rename_i q
      have q : okBox 1000 ⟨w, e, s, n⟩ = true := by revert q; cases okBox 1000 ⟨w, e, s, n⟩ <;> simp
      exact h.become ⟨hn.ne, hn.le4, hn.bd, hn.l4, hn.lbd, hn.cur, okBox_iff.mp q, hn.lohi, hn.hi20, hn.hr⟩
  | hours n =>
    simp only [act]
    split
    · exact h
    · split
      · exact h
      · rename_i q
        split
        · exact h
        · rename_i q3
          rw [hours_eq] at q3 ⊢
          refine h.become ⟨q3, hoursOn_len hn.le4 n, fun b hb => ?_, hn.l4, hn.lbd, hn.cur, hn.win, hn.lohi, hn.hi20, ?_⟩
          · exact (hoursOn_bd hn hn.bd n b hb).mono (by unfold edge; simp only; omega)
          · unfold LATEST at q; show d.now.hour + n ≤ 1000; omega
  | sighted w e s n =>
    simp only [act]
    split
    · exact h
    · split
      · exact h
      · rename_i q
        exact h.become ⟨q, narrow_len hn.le4, narrow_bd hn.bd, hn.l4, hn.lbd, hn.cur, hn.win, hn.lohi, hn.hi20, hn.hr⟩
  | searched w e s n =>
    simp only [act]
    split
    · exact h
    · split
      · exact h
      · rename_i q
        refine h.become ⟨squeezed_ne q, squeezed_len _, squeezed_bd fun b hb => ?_, hn.l4, hn.lbd, hn.cur, hn.win, hn.lohi, hn.hi20, hn.hr⟩
        obtain ⟨a, ha, hb⟩ := List.mem_flatMap.mp hb
        exact (hn.bd a ha).less hb
  | other w e s n =>
    simp only [act]
    split
    · exact h
    · rename_i q0
      have q0 : okBox FAR ⟨w, e, s, n⟩ = true := by revert q0; cases okBox FAR ⟨w, e, s, n⟩ <;> simp
      split
      · exact h
      · rename_i q
        have hb : ∀ b ∈ d.now.boxes ++ [(⟨w, e, s, n⟩ : Box)], Bd (edge d.now.hour) b := fun b hb => by
          rcases List.mem_append.mp hb with hb | hb
          · exact hn.bd b hb
          · rw [List.mem_singleton] at hb
            subst hb
            exact (okBox_iff.mp q0).mono (by unfold edge FAR; omega)
        have hd : dry d.now.lands (d.now.boxes ++ [(⟨w, e, s, n⟩ : Box)]) ≠ [] := fun z => by
          have ap : ∀ (ls l k : List Box), dry ls (l ++ k) = dry ls l ++ dry ls k := fun ls => by
            induction ls with
            | nil => intro l k; rfl
            | cons x ls ih =>
              intro l k
              show dry ls ((l ++ k).flatMap fun b => b.less x) = dry ls (l.flatMap fun b => b.less x) ++ dry ls (k.flatMap fun b => b.less x)
              rw [List.flatMap_append, ih]
          rw [ap, List.append_eq_nil_iff] at z
          exact q z.2
        exact h.become ⟨squeezed_ne hd, squeezed_len _, squeezed_bd (dry_bd hb), hn.l4, hn.lbd, hn.cur, hn.win, hn.lohi, hn.hi20, hn.hr⟩
  | back =>
    simp only [act]
    cases e : d.past with
    | nil => exact h
    | cons k r =>
      rw [e] at hp h20
      refine ⟨hp k List.mem_cons_self, fun s hs => hp s (List.mem_cons_of_mem _ hs), fun s hs => ?_, ?_⟩
      · rcases List.mem_cons.mp hs with rfl | hs
        · exact hn
        · exact hf s hs
      · rw [List.length_cons] at h20; show r.length ≤ 20; omega
  | again =>
    simp only [act]
    cases e : d.future with
    | nil => exact h
    | cons k r =>
      rw [e] at hf
      refine ⟨hf k List.mem_cons_self, fun s hs => ?_, fun s hs => hf s (List.mem_cons_of_mem _ hs), ?_⟩
      · have : s ∈ d.now :: d.past := List.mem_of_mem_take hs
        rcases List.mem_cons.mp this with rfl | q
        · exact hn
        · exact hp s q
      · show ((d.now :: d.past).take PAST).length ≤ 20
        rw [List.length_take]; exact Nat.min_le_left _ _
  | _ => exact h
end Db
end
section
/-! The flat list of calls, call by call; what each call is. -/
set_option Elab.async false
namespace Db
open Km444

/-- the call of each number, by what it is handed -/
inductive Rl : Nat → List Int → Call → Prop
  | c0 (w e s n : Int) (lo hi : Nat) : Rl 0 [w, e, s, n, (lo : Int), (hi : Int)] (.start w e s n lo hi)
  | c1 (w e s n : Int) : Rl 1 [w, e, s, n] (.land w e s n)
  | c2 (w e s n : Int) : Rl 2 [w, e, s, n] (.current w e s n)
  | c3 (w e s n : Int) : Rl 3 [w, e, s, n] (.wind w e s n)
  | c4 (n : Nat) : Rl 4 [(n : Int)] (.hours n)
  | c5 (w e s n : Int) : Rl 5 [w, e, s, n] (.sighted w e s n)
  | c6 (w e s n : Int) : Rl 6 [w, e, s, n] (.searched w e s n)
  | c7 (w e s n : Int) : Rl 7 [w, e, s, n] (.other w e s n)
  | c8 (n : Nat) : Rl 8 [(n : Int)] (.box n)
  | c9 (x y : Int) : Rl 9 [x, y] (.may x y)
  | c10 : Rl 10 [] .round
  | c11 : Rl 11 [] .area
  | c12 : Rl 12 [] .drift
  | c13 (n : Nat) : Rl 13 [(n : Int)] (.ahead n)
  | c14 (w e s n : Int) : Rl 14 [w, e, s, n] (.reaches w e s n)
  | c15 : Rl 15 [] .best
  | c16 : Rl 16 [] .centre
  | c17 : Rl 17 [] .widest
  | c18 : Rl 18 [] .lands
  | c19 (n : Nat) : Rl 19 [(n : Int)] (.shore n)
  | c20 : Rl 20 [] .told
  | c21 : Rl 21 [] .back
  | c22 : Rl 22 [] .again
  | c23 : Rl 23 [] .state

def argN : List Nat := [6, 4, 4, 4, 1, 4, 4, 4, 1, 2, 0, 0, 0, 1, 4, 0, 0, 0, 0, 1, 0, 0, 0, 0]
theorem Rl.lt {j : Nat} {xs : List Int} {x : Call} (h : Rl j xs x) : j < 24 := by cases h <;> decide
theorem Rl.len {j : Nat} {xs : List Int} {x : Call} (h : Rl j xs x) : argN[j]? = some xs.length := by cases h <;> rfl

theorem nat_of {b : Int} (h : Km444Neutral.natural b 32 = true) : ((b.toNat : Nat) : Int) = b := by
  unfold Km444Neutral.natural at h
  simp only [Bool.and_eq_true, decide_eq_true_eq] at h
  omega
/-! ### one call off the flat list -/
/-- the shapes, one by one -/
theorem shape_cases {p : Int} {n k : Nat} (h : PyKm444.shape p = some (n, k)) : k = 0 ∧ ∃ j : Nat, p = (j : Int) ∧ argN[j]? = some n := by
  have one : ∀ (i m : Nat) (o : Option (Nat × Nat)), argN[i]? = some m → (if p = (i : Int) then some (m, 0) else o) = some (n, k) → o = some (n, k) ∨ (k = 0 ∧ ∃ j : Nat, p = (j : Int) ∧ argN[j]? = some n) := by
    intro i m o hi h
    by_cases hc : p = (i : Int)
    · rw [if_pos hc] at h
      have := Option.some.inj h
      injection this with h1 h2
      exact .inr ⟨h2.symm, i, hc, by rw [← h1]; exact hi⟩
    · rw [if_neg hc] at h
      exact .inl h
  unfold PyKm444.shape at h
  rcases one 0 6 _ rfl h with h | h
  case inr => exact h
  rcases one 1 4 _ rfl h with h | h
  case inr => exact h
  rcases one 2 4 _ rfl h with h | h
  case inr => exact h
  rcases one 3 4 _ rfl h with h | h
  case inr => exact h
  rcases one 4 1 _ rfl h with h | h
  case inr => exact h
  rcases one 5 4 _ rfl h with h | h
  case inr => exact h
  rcases one 6 4 _ rfl h with h | h
  case inr => exact h
  rcases one 7 4 _ rfl h with h | h
  case inr => exact h
  rcases one 8 1 _ rfl h with h | h
  case inr => exact h
  rcases one 9 2 _ rfl h with h | h
  case inr => exact h
  rcases one 10 0 _ rfl h with h | h
  case inr => exact h
  rcases one 11 0 _ rfl h with h | h
  case inr => exact h
  rcases one 12 0 _ rfl h with h | h
  case inr => exact h
  rcases one 13 1 _ rfl h with h | h
  case inr => exact h
  rcases one 14 4 _ rfl h with h | h
  case inr => exact h
  rcases one 15 0 _ rfl h with h | h
  case inr => exact h
  rcases one 16 0 _ rfl h with h | h
  case inr => exact h
  rcases one 17 0 _ rfl h with h | h
  case inr => exact h
  rcases one 18 0 _ rfl h with h | h
  case inr => exact h
  rcases one 19 1 _ rfl h with h | h
  case inr => exact h
  rcases one 20 0 _ rfl h with h | h
  case inr => exact h
  rcases one 21 0 _ rfl h with h | h
  case inr => exact h
  rcases one 22 0 _ rfl h with h | h
  case inr => exact h
  rcases one 23 0 _ rfl h with h | h
  case inr => exact h
  cases h
/-- a call of its shape -/
def okc (c : List (List Int)) : Prop := ∃ (p : Int) (xs : List Int), c = [p :: xs] ∧ PyKm444.shape p = some (xs.length, 0)
theorem rl_go (j : Nat) (xs : List Int) (h : argN[j]? = some xs.length) : PyKm444.whole [(j : Int) :: xs] = [(j : Int) :: xs] ∧ (Km444Neutral.asked1 [(j : Int) :: xs] = true → ∃ x, Rl j xs x ∧ Km444Neutral.callOf [(j : Int) :: xs] = some x) := by
  match j, xs, h with
  | 0, [w, e, s, n, lo, hi], _ =>
    refine ⟨rfl, fun q => ⟨_, ?_, rfl⟩⟩
    have q : (Km444Neutral.whole32 w && Km444Neutral.whole32 e && Km444Neutral.whole32 s && Km444Neutral.whole32 n && Km444Neutral.natural lo 32 && Km444Neutral.natural hi 32) = true := q
    simp only [Bool.and_eq_true] at q
    have r := Rl.c0 w e s n lo.toNat hi.toNat
    rw [nat_of q.1.2, nat_of q.2] at r
    exact r
  | 1, [w, e, s, n], _ => exact ⟨rfl, fun _ => ⟨_, .c1 .., rfl⟩⟩
  | 2, [w, e, s, n], _ => exact ⟨rfl, fun _ => ⟨_, .c2 .., rfl⟩⟩
  | 3, [w, e, s, n], _ => exact ⟨rfl, fun _ => ⟨_, .c3 .., rfl⟩⟩
  | 4, [n], _ =>
    refine ⟨rfl, fun q => ⟨_, ?_, rfl⟩⟩
    have r := Rl.c4 n.toNat
    rw [nat_of (show Km444Neutral.natural n 32 = true from q)] at r
    exact r
  | 5, [w, e, s, n], _ => exact ⟨rfl, fun _ => ⟨_, .c5 .., rfl⟩⟩
  | 6, [w, e, s, n], _ => exact ⟨rfl, fun _ => ⟨_, .c6 .., rfl⟩⟩
  | 7, [w, e, s, n], _ => exact ⟨rfl, fun _ => ⟨_, .c7 .., rfl⟩⟩
  | 8, [n], _ =>
    refine ⟨rfl, fun q => ⟨_, ?_, rfl⟩⟩
    have r := Rl.c8 n.toNat
    rw [nat_of (show Km444Neutral.natural n 32 = true from q)] at r
    exact r
  | 9, [x, y], _ => exact ⟨rfl, fun _ => ⟨_, .c9 .., rfl⟩⟩
  | 10, [], _ => exact ⟨rfl, fun _ => ⟨_, .c10, rfl⟩⟩
  | 11, [], _ => exact ⟨rfl, fun _ => ⟨_, .c11, rfl⟩⟩
  | 12, [], _ => exact ⟨rfl, fun _ => ⟨_, .c12, rfl⟩⟩
  | 13, [n], _ =>
    refine ⟨rfl, fun q => ⟨_, ?_, rfl⟩⟩
    have r := Rl.c13 n.toNat
    rw [nat_of (show Km444Neutral.natural n 32 = true from q)] at r
    exact r
  | 14, [w, e, s, n], _ => exact ⟨rfl, fun _ => ⟨_, .c14 .., rfl⟩⟩
  | 15, [], _ => exact ⟨rfl, fun _ => ⟨_, .c15, rfl⟩⟩
  | 16, [], _ => exact ⟨rfl, fun _ => ⟨_, .c16, rfl⟩⟩
  | 17, [], _ => exact ⟨rfl, fun _ => ⟨_, .c17, rfl⟩⟩
  | 18, [], _ => exact ⟨rfl, fun _ => ⟨_, .c18, rfl⟩⟩
  | 19, [n], _ =>
    refine ⟨rfl, fun q => ⟨_, ?_, rfl⟩⟩
    have r := Rl.c19 n.toNat
    rw [nat_of (show Km444Neutral.natural n 32 = true from q)] at r
    exact r
  | 20, [], _ => exact ⟨rfl, fun _ => ⟨_, .c20, rfl⟩⟩
  | 21, [], _ => exact ⟨rfl, fun _ => ⟨_, .c21, rfl⟩⟩
  | 22, [], _ => exact ⟨rfl, fun _ => ⟨_, .c22, rfl⟩⟩
  | 23, [], _ => exact ⟨rfl, fun _ => ⟨_, .c23, rfl⟩⟩
  | j + 24, _, h => simp [argN] at h
theorem okc.of {c : List (List Int)} (h : okc c) : PyKm444.whole c = c := by
  obtain ⟨p, xs, rfl, hs⟩ := h
  obtain ⟨_, j, rfl, hj⟩ := shape_cases hs
  exact (rl_go j xs hj).1
theorem rl_of {p : Int} {xs : List Int} (hs : PyKm444.shape p = some (xs.length, 0)) (h : Km444Neutral.asked1 [p :: xs] = true) : ∃ j x, p = ((j : Nat) : Int) ∧ Rl j xs x ∧ Km444Neutral.callOf [p :: xs] = some x := by
  obtain ⟨_, j, rfl, hj⟩ := shape_cases hs
  obtain ⟨x, R, hc⟩ := (rl_go j xs hj).2 h
  exact ⟨j, x, rfl, R, hc⟩
theorem calls_step {f : Nat} {p : Int} {r : List Int} {cs : List (List (List Int))} (h : PyFlat.calls PyKm444.shape f (p :: r) = some cs) :
    ∃ (n f' : Nat) (cs' : List (List (List Int))), f = f' + 1 ∧ n ≤ r.length ∧ PyKm444.shape p = some (n, 0) ∧ cs = [p :: r.take n] :: cs' ∧ PyFlat.calls PyKm444.shape f' (r.drop n) = some cs' := by
  cases f with
  | zero => cases h
  | succ f =>
    unfold PyFlat.calls at h
    split at h
    · cases h
    · rename_i c t hc
      simp only [PyFlat.call] at hc
      split at hc
      · cases hc
      · rename_i n k hs
        have hk := (shape_cases hs).1
        subst hk
        split at hc
        · cases hc
        · rename_i hl
          unfold PyFlat.rows at hc
          simp only at hc
          have hc := Option.some.inj hc
          injection hc with h1 h2
          subst h1 h2
          split at h
          · cases h
          · rename_i cs' hcs
            have h := Option.some.inj h
            exact ⟨n, f, cs', rfl, by omega, hs, h.symm, hcs⟩
theorem calls_ok : ∀ (f : Nat) (l : List Int) (cs : List (List (List Int))), PyFlat.calls PyKm444.shape f l = some cs → ∀ c ∈ cs, okc c
  | _, [], cs, h, c, hc => by
    unfold PyFlat.calls at h
    have := Option.some.inj h
    subst this
    exact absurd hc List.not_mem_nil
  | 0, _ :: _, _, h, _, _ => by cases h
  | f + 1, p :: r, cs, h, c, hc => by
    obtain ⟨n, f', cs', ef, hn, hs, ecs, hcs⟩ := calls_step h
    have ef : f = f' := by omega
    subst ef ecs
    rcases List.mem_cons.mp hc with rfl | hc
    · exact ⟨p, _, rfl, by rw [List.length_take, Nat.min_eq_left hn]; exact hs⟩
    · exact calls_ok f _ _ hcs c hc
theorem whole_all {f : Nat} {l : List Int} {cs : List (List (List Int))} (h : PyFlat.calls PyKm444.shape f l = some cs) : cs.map PyKm444.whole = cs := by
  rw [show cs.map PyKm444.whole = cs.map id from List.map_congr_left fun c hc => (calls_ok f l cs h c hc).of, List.map_id]
theorem calls_nil {f : Nat} {cs : List (List (List Int))} (h : PyFlat.calls PyKm444.shape f [] = some cs) : cs = [] := by
  unfold PyFlat.calls at h
  exact (Option.some.inj h).symm

/-! ### the desk beside the state -/
def desk0 : Desk := fresh ⟨0, 0, 0, 0⟩ 0 0
def Rs (st : Km444Neutral.S) (d : Desk) : Prop := st = some d ∨ (st = none ∧ d = desk0)
theorem desk0_ok : DeskOk desk0 := by
  refine ⟨ok_opened (by decide), fun _ h => absurd h List.not_mem_nil, fun _ h => absurd h List.not_mem_nil, by decide⟩
theorem step_of {st : Km444Neutral.S} {d : Desk} {c : Km444Neutral.Call} {x : Call} (h : Rs st d) (hc : Km444Neutral.callOf c = some x) (hn : (Km444Neutral.step st c).2.isEmpty = false) :
    (Km444Neutral.step st c).2 = Km444Neutral.told (act d x).2 ∧ Rs (Km444Neutral.step st c).1 (act d x).1 := by
  rcases h with rfl | ⟨rfl, rfl⟩
  · unfold Km444Neutral.step
    rw [hc]
    exact ⟨rfl, .inl rfl⟩
  · unfold Km444Neutral.step at hn ⊢
    rw [hc] at hn ⊢
    simp only at hn ⊢
    by_cases hst : Km444Neutral.isStart x = true
    · rw [if_pos hst] at hn ⊢
      refine ⟨rfl, ?_⟩
      cases x with
      | start w e s n lo hi =>
        show Rs (if (Km444Neutral.told (act desk0 (.start w e s n lo hi)).2).headD 0 < 0 then none else some (act desk0 (.start w e s n lo hi)).1) _
        by_cases ho : okStart ⟨w, e, s, n⟩ lo hi = false
        · have ea : act desk0 (.start w e s n lo hi) = (desk0, only (-22)) := by simp only [act]; rw [if_pos ho]
          rw [ea]
          exact .inr ⟨rfl, rfl⟩
        · have ea : act desk0 (.start w e s n lo hi) = (⟨opened ⟨w, e, s, n⟩ lo hi, [], []⟩, only 0) := by simp only [act]; rw [if_neg ho]
          rw [ea]
          exact .inl rfl
      | _ => cases hst
    · rw [if_neg hst] at hn
      simp at hn

/-- no answer is long -/
theorem told_len (d : Desk) (x : Call) : (Km444Neutral.told (act d x).2).length ≤ 9 := by
  have t4 : ∀ b : Box, b.told.length = 4 := fun _ => rfl
  unfold Km444Neutral.told
  cases x <;> simp only [act, only]
  all_goals (repeat' split) <;> simp [t4]

/-- how many can be taken back and done again -/
def PF (d : Desk) : Prop := d.past.length + d.future.length ≤ 20
theorem PF.become {d : Desk} {s : Sea} : PF (d.become s) := by
  show ((d.now :: d.past).take PAST).length + 0 ≤ 20
  rw [List.length_take]
  exact Nat.min_le_left _ _
theorem act_pf {d : Desk} (h : PF d) (x : Call) : PF (act d x).1 := by
  have b : ∀ s, PF (d.become s) := fun s => PF.become
  cases x <;> simp only [act]
  case back =>
    cases e : d.past with
    | nil => exact h
    | cons k r =>
      unfold PF at h ⊢
      rw [e] at h
      simp only [List.length_cons] at h ⊢
      omega
  case again =>
    cases e : d.future with
    | nil => exact h
    | cons k r =>
      unfold PF at h ⊢
      rw [e] at h
      simp only [List.length_cons, List.length_take] at h ⊢
      omega
  case start => split
                · exact h
                · show 0 + 0 ≤ 20; omega
  all_goals first | exact h | exact b _ | (repeat' split) <;> first | exact h | exact b _
end Db
end
section
/-! What single calls ask, in the program's words. -/
set_option Elab.async false
namespace Db
open Km444

/-! ### reaches -/
def met (s : Sea) (b : Box) (n : Nat) : Bool := (hoursOn s n s.boxes).any fun x => (x.meet b).full
theorem hours_after (s : Sea) (n : Nat) : (s.hours n).after = s.hours (n + 1) := by
  rw [hours_eq, hours_eq]
  unfold Sea.after
  have e : hoursOn s (n + 1) s.boxes = hourOn s (hoursOn s n s.boxes) := hoursOn_snoc s n s.boxes
  rw [e]
  rfl
theorem reach_from (s : Sea) (b : Box) : ∀ n, n ≤ 49 → (∀ m, m < n → met s b m = false) → reachGo 49 0 s b = reachGo (49 - n) n (s.hours n) b
  | 0, _, _ => rfl
  | n + 1, h, hm => by
    rw [reach_from s b n (by omega) fun m q => hm m (by omega)]
    have e : 49 - n = (49 - (n + 1)) + 1 := by omega
    rw [e, reachGo]
    have hn := hm n (by omega)
    unfold met at hn
    have eb : (s.hours n).boxes = hoursOn s n s.boxes := by rw [hours_eq]
    rw [eb, hn, if_neg (by decide), hours_after]
theorem reach_at {s : Sea} {b : Box} {n : Nat} (h : n < 49) (hm : ∀ m, m < n → met s b m = false) (ht : met s b n = true) : reachGo 49 0 s b = some n := by
  rw [reach_from s b n (by omega) hm]
  have e : 49 - n = (49 - (n + 1)) + 1 := by omega
  rw [e, reachGo]
  have eb : (s.hours n).boxes = hoursOn s n s.boxes := by rw [hours_eq]
  unfold met at ht
  rw [eb, ht, if_pos rfl]
theorem reach_no {s : Sea} {b : Box} (hm : ∀ m, m < 49 → met s b m = false) : reachGo 49 0 s b = none := by
  rw [reach_from s b 49 (by omega) hm]
  rfl
theorem met_iff (l : List Box) (b : Box) : (l.any fun x => (x.meet b).full) = !((l.map fun x => x.meet b).filter Box.full).isEmpty := by
  induction l with
  | nil => rfl
  | cons a l ih =>
    rw [List.any_cons, List.map_cons, List.filter_cons, ih]
    cases (a.meet b).full <;> rfl

/-! ### the least box -/
def lstep (l : List Box) : Option Nat → Nat → Option Nat := fun r i => match r with
  | none => some i
  | some j => if (l.getD i zero).area < (l.getD j zero).area then some i else some j
theorem least_eq (s : Sea) : s.least = (List.range s.boxes.length).foldl (lstep s.boxes) none := rfl
theorem least_go (l : List Box) : ∀ n, 0 < n → ∃ j, (List.range n).foldl (lstep l) none = some j ∧ j < n ∧ (∀ m, m < n → (l.getD j zero).area ≤ (l.getD m zero).area) ∧ ∀ m, m < j → (l.getD j zero).area < (l.getD m zero).area
  | 0, h => absurd h (by omega)
  | 1, _ => ⟨0, rfl, by omega, fun m hm => by have : m = 0 := by omega
                                              subst this; exact Nat.le_refl _, fun m hm => by omega⟩
  | n + 2, _ => by
    obtain ⟨j, e, h1, h2, h3⟩ := least_go l (n + 1) (by omega)
    rw [List.range_succ, List.foldl_append, e]
    show ∃ j', (if (l.getD (n + 1) zero).area < (l.getD j zero).area then some (n + 1) else some j) = some j' ∧ _
    by_cases hc : (l.getD (n + 1) zero).area < (l.getD j zero).area
    · rw [if_pos hc]
      refine ⟨n + 1, rfl, by omega, fun m hm => ?_, fun m hm => ?_⟩
      · by_cases hn : m = n + 1
        · subst hn; exact Nat.le_refl _
        · have := h2 m (by omega); omega
      · have := h2 m (by omega); omega
    · rw [if_neg hc]
      refine ⟨j, rfl, by omega, fun m hm => ?_, h3⟩
      by_cases hn : m = n + 1
      · subst hn; omega
      · exact h2 m (by omega)
theorem amt_getD {l : List Box} (hf : ∀ b ∈ l, b.full = true) {i : Nat} (hi : i < l.length) : (l.map amt)[i]? = some (((l.getD i zero).area : Nat) : Int) := by
  have e : l.getD i zero = l[i] := by rw [List.getD_eq_getElem?_getD, List.getElem?_eq_getElem hi]; rfl
  rw [List.getElem?_map, List.getElem?_eq_getElem hi, e, Option.map_some, amt_eq (hf _ (List.getElem_mem hi))]
/-- the least amount and its first place, as the program finds them -/
theorem least_is {s : Sea} (hne : s.boxes ≠ []) (hf : ∀ b ∈ s.boxes, b.full = true) : ∃ j, s.least = some j ∧ j < s.boxes.length ∧
    (s.boxes.map amt)[j]? = some (((s.boxes.getD j zero).area : Nat) : Int) ∧ (∀ y ∈ s.boxes.map amt, (((s.boxes.getD j zero).area : Nat) : Int) ≤ y) ∧ ∀ (m : Nat) (y : Int), m < j → (s.boxes.map amt)[m]? = some y → y ≠ (((s.boxes.getD j zero).area : Nat) : Int) := by
  obtain ⟨j, e, h1, h2, h3⟩ := least_go s.boxes s.boxes.length (List.length_pos_iff.mpr hne)
  refine ⟨j, e, h1, amt_getD hf h1, fun y hy => ?_, fun m y hm hy => ?_⟩
  · obtain ⟨i, hi, ey⟩ := List.getElem_of_mem hy
    rw [List.length_map] at hi
    have q := amt_getD hf hi
    rw [List.getElem?_eq_getElem (by rw [List.length_map]; exact hi), ey] at q
    rw [Option.some.inj q]
    have := h2 i hi
    omega
  · have hi : m < s.boxes.length := by omega
    have q := amt_getD hf hi
    rw [hy] at q
    rw [Option.some.inj q]
    have := h3 m hm
    omega

/-! ### all boxes, one by one -/
theorem area_go : ∀ (l : List Box) (n : Nat), (∀ b ∈ l, b.full = true) → (((l.foldl (fun n b => n + b.area) n : Nat)) : Int) = (n : Int) + (l.map amt).sum
  | [], n, _ => by simp
  | b :: l, n, h => by
    rw [List.foldl_cons, area_go l (n + b.area) fun x hx => h x (List.mem_cons_of_mem _ hx), List.map_cons, List.sum_cons, amt_eq (h b List.mem_cons_self)]
    omega
theorem area_sum {l : List Box} (h : ∀ b ∈ l, b.full = true) : (l.map amt).sum = (((l.foldl (fun n b => n + b.area) 0 : Nat)) : Int) := by
  rw [area_go l 0 h]; simp

/-! ### the drift as a box -/
def pDrift (s : Sea) : Box := ⟨s.current.w + lowT s.wind.w s.wind.e s.lo s.hi, s.current.e + highT s.wind.w s.wind.e s.lo s.hi, s.current.s + lowT s.wind.s s.wind.n s.lo s.hi, s.current.n + highT s.wind.s s.wind.n s.lo s.hi⟩
theorem pDrift_eq (s : Sea) : pDrift s = drift s.current s.wind s.lo s.hi := by
  unfold pDrift
  rw [lowT_eq, lowT_eq, highT_eq, highT_eq]
  rfl
theorem hourOn_eq (s : Sea) (l : List Box) : squeezed (dry s.lands (l.map fun b => b.plus (pDrift s))) = hourOn s l := by
  rw [pDrift_eq]; rfl

/-! ### the box round all -/
theorem round_eq {s : Sea} {b : Box} {l : List Box} (h : s.boxes = b :: l) : s.round = some (l.foldl Box.join b) := by
  unfold Sea.round
  rw [h]
theorem become_eq (d : Desk) (s : Sea) : d.become s = ⟨s, (d.now :: d.past).take 20, []⟩ := rfl
end Db
end
section
set_option Elab.async false
set_option linter.all false
set_option maxRecDepth 100000
namespace L2
open PySem PySem.Spec PyProof.Rows
abbrev Key := Sum Int Str
def keyIs : Key → Value → Bool
  | .inl k, v => Value.isInt k v
  | .inr x, v => Value.isStrOf x v
def keyH (w : World) : Key → Int
  | .inl k => hashInt k
  | .inr x => hashStr w x
theorem keyIs_shape : ∀ {k : Key} {v : Value}, keyIs k v = true → (∃ i t, k = Sum.inl i ∧ v = Value.int i t) ∨ (∃ x t, k = Sum.inr x ∧ v = Value.str x t)
  | .inl i, v, h => by
    obtain ⟨t, e⟩ := Value.isInt_shape (k := i) (v := v) h
    exact .inl ⟨i, t, rfl, e⟩
  | .inr x, v, h => by
    obtain ⟨t, e⟩ := Value.isStrOf_shape (x := x) (v := v) h
    exact .inr ⟨x, t, rfl, e⟩
theorem keyIs_int (i : Int) (t : Tok) : keyIs (.inl i) (.int i t) = true := by simp [keyIs, Value.isInt]
theorem keyIs_str (x : Str) (t : Tok) : keyIs (.inr x) (.str x t) = true := by simp [keyIs, Value.isStrOf]
theorem key_ll (a b : Int) : decide ((Sum.inl a : Key) = Sum.inl b) = (a == b) := by
  by_cases e : a = b
  · subst e; simp
  · have h : ¬ (Sum.inl a : Key) = Sum.inl b := fun q => e (Sum.inl.inj q)
    rw [decide_eq_false h]
    exact (beq_eq_false_iff_ne.mpr e).symm
theorem key_rr (a b : Str) : decide ((Sum.inr a : Key) = Sum.inr b) = decide (a = b) := by
  by_cases e : a = b
  · subst e; simp
  · have h : ¬ (Sum.inr a : Key) = Sum.inr b := fun q => e (Sum.inr.inj q)
    rw [decide_eq_false h, decide_eq_false e]
theorem key_lr (a : Int) (b : Str) : decide ((Sum.inl a : Key) = Sum.inr b) = false := decide_eq_false (fun q => nomatch q)
theorem key_rl (a : Str) (b : Int) : decide ((Sum.inr a : Key) = Sum.inl b) = false := decide_eq_false (fun q => nomatch q)
def mixKind (prog : Program) (w : World) : PySem.KeyKind prog w Key where
  is := keyIs
  hash := keyH w
  inj := fun v a b ha hb => by
    rcases keyIs_shape ha with ⟨i, t, rfl, rfl⟩ | ⟨x, t, rfl, rfl⟩
    · rcases keyIs_shape hb with ⟨j, u, rfl, e⟩ | ⟨y, u, rfl, e⟩
      · injection e with e1 _; rw [e1]
      · exact nomatch e
    · rcases keyIs_shape hb with ⟨j, u, rfl, e⟩ | ⟨y, u, rfl, e⟩
      · exact nomatch e
      · injection e with e1 _; rw [e1]
  byValue := fun k v h => by
    rcases keyIs_shape h with ⟨i, t, rfl, rfl⟩ | ⟨x, t, rfl, rfl⟩ <;> rfl
  pyHash := fun hv h => by
    rcases keyIs_shape hv with ⟨i, t, rfl, rfl⟩ | ⟨x, t, rfl, rfl⟩
    · exact wpAny_pyHash_int h
    · exact wpAny_pyHash_str h
  eqBool := fun hu hv h => by
    rcases keyIs_shape hu with ⟨i, t, rfl, rfl⟩ | ⟨x, t, rfl, rfl⟩
    · rcases keyIs_shape hv with ⟨j, u, rfl, rfl⟩ | ⟨y, u, rfl, rfl⟩
      · rw [key_ll] at h; exact wpAny_eqBool_int h
      · rw [key_lr] at h; exact SeqAt.EqAt.int_str i t y u _ _ _ _ h
    · rcases keyIs_shape hv with ⟨j, u, rfl, rfl⟩ | ⟨y, u, rfl, rfl⟩
      · rw [key_rl] at h; exact SeqAt.EqAt.str_int x t j u _ _ _ _ h
      · rw [key_rr] at h; exact wpAny_eqBool_str h
  «strs» := fun k x t v h => by
    rcases keyIs_shape h with ⟨i, u, rfl, e⟩ | ⟨y, u, rfl, e⟩
    · exact nomatch e
    · injection e with e1 _
      subst e1
      cases v <;> rfl
theorem mixKind_int (prog : Program) (w : World) (i : Int) (t : Tok) : (mixKind prog w).is (.inl i) (.int i t) = true := keyIs_int i t
theorem mixKind_str (prog : Program) (w : World) (x : Str) (t : Tok) : (mixKind prog w).is (.inr x) (.str x t) = true := keyIs_str x t
end L2
namespace L2
open PySem PySem.Spec PyProof.Rows
inductive V where
  | non | bl (b : Bool) | int (i : Int) | str (x : Str) | byt (b : Array UInt8) | flt (b : UInt64) | ref (a : Addr) | ty (n : String)
  deriving DecidableEq
def RelV : V → Value → Prop
  | .non, u => u = Value.none
  | .bl b, u => u = Value.bool b
  | .int i, u => ∃ t, u = Value.int i t
  | .str x, u => ∃ t, u = Value.str x t
  | .byt b, u => ∃ t, u = Value.bytes b t
  | .flt b, u => ∃ t, u = Value.float b t
  | .ref a, u => u = Value.ref a
  | .ty n, u => u = Value.type n
abbrev Vals : List V → List Value → Prop := Paired RelV
theorem Vals.length {xs : List V} {us : List Value} (r : Vals xs us) : xs.length = us.length := Paired.length r
theorem Vals.get : ∀ {xs : List V} {us : List Value} {i : Nat} {x : V}, Vals xs us → xs[i]? = some x → ∃ u, us[i]? = some u ∧ RelV x u
  | _, _, _, _, .nil, e => by simp at e
  | _, _, 0, _, .cons r _, e => by simp at e; subst e; exact ⟨_, rfl, r⟩
  | _, _, i + 1, x, .cons _ t, e => by
    obtain ⟨u, h1, h2⟩ := Vals.get (i := i) (x := x) t (by simpa using e)
    exact ⟨u, by simpa using h1, h2⟩
theorem Vals.append : ∀ {xs ys : List V} {us ws : List Value}, Vals xs us → Vals ys ws → Vals (xs ++ ys) (us ++ ws)
  | _, _, _, _, .nil, s => s
  | _, _, _, _, .cons r t, s => .cons r (Vals.append t s)
theorem Vals.take : ∀ {xs : List V} {us : List Value} (n : Nat), Vals xs us → Vals (xs.take n) (us.take n)
  | _, _, 0, _ => .nil
  | _, _, _ + 1, .nil => .nil
  | _, _, n + 1, .cons r t => .cons r (Vals.take n t)
theorem Vals.drop : ∀ {xs : List V} {us : List Value} (n : Nat), Vals xs us → Vals (xs.drop n) (us.drop n)
  | _, _, 0, r => r
  | _, _, _ + 1, .nil => .nil
  | _, _, n + 1, .cons _ t => Vals.drop n t
def RelO : Option V → Option Value → Prop
  | some v, some u => RelV v u
  | none, none => True
  | _, _ => False
def KV {κ : Type} : List (κ × V) → List (κ × Value) → Prop := Paired fun (p : κ × V) (q : κ × Value) => p.1 = q.1 ∧ RelV p.2 q.2
def kV : Key → V
  | .inl i => .int i
  | .inr x => .str x
inductive HO where
  /-- a list -/
  | lst (xs : List V)
  /-- a tuple (never changes) -/
  | tup (xs : List V)
  /-- a dict whose keys are ints and texts; one whose keys are tuples of ints and texts (the empty one is both) -/
  | dK (kvs : List (Key × V)) | dT (kvs : List (List Key × V))
  /-- a set of ints: its members, its size -/
  | set (S : Int → Bool) (n : Nat)
  /-- an instance of the class at C, its dict at dx, its attributes -/
  | ins (C dx : Addr) (fs : List (Str × V))
  /-- the dict of the instance at x -/
  | own (x : Addr)
  /-- the dict of an exception -/
  | xd (fs : List (Str × V))
  /-- a bound method, f of x -/
  | met (f x : Addr)
  /-- a range object lo, lo + 1, .. below hi -/
  | rng (lo hi : Int)
  /-- a thing that is known to the object (the script; a dict while a loop walks it): read, never written while it is so -/
  | frz (o : Obj) (u : HO)
  /-- a code object's table -/
  | tbl (ps : Array Value)
  /-- any other thing, by what is true of its one object (a def of one's own: SetO a S n := HO.ext fun h => ..) -/
  | ext (φ : Heap → Prop)
abbrev Hp := Addr → Option HO
def upd (H : Hp) (a : Addr) (o : HO) : Hp := fun b => if b = a then some o else H b
theorem upd_same {H : Hp} {a : Addr} {o : HO} : upd H a o a = some o := by unfold upd; rw [if_pos rfl]
theorem upd_ne {H : Hp} {a b : Addr} {o : HO} (h : b ≠ a) : upd H a o b = H b := by unfold upd; rw [if_neg h]
theorem ne_of {H : Hp} {a b : Addr} {o u : HO} (h : H a = some o) (h' : H b = some u) (d : o ≠ u) : a ≠ b := by
  intro e; subst e; rw [h] at h'; exact d (Option.some.inj h')
theorem ne_of_none {H : Hp} {a b : Addr} {o : HO} (h : H a = some o) (h' : H b = none) : a ≠ b := by
  intro e; subst e; rw [h] at h'; cases h'
section
variable (P : Program) (w : World)
def ObjOk (H : Hp) (h : Heap) (a : Addr) : HO → Prop
  | .lst xs => xs.length ≤ sizeLine ∧ ∃ (its : List Value) (n : Nat), Vals xs its ∧ h.get? a = some { cls := .type "list", data := .seq its.toArray n }
  | .tup xs => xs.length ≤ sizeLine ∧ ∃ its : List Value, Vals xs its ∧ IsTup h a its.toArray
  | .dK kvs => kvs.length ≤ sizeLine ∧ (a == sysModules) = false ∧ ∃ vs, KV kvs vs ∧ h.DictOf (mixKind P w) a vs
  | .dT kvs => kvs.length ≤ sizeLine ∧ (a == sysModules) = false ∧ ∃ xs : List (List Key × Addr × Value),
      Paired (fun (p : List Key × V) (q : List Key × Addr × Value) => p.1 = q.1 ∧ H q.2.1 = some (.tup (p.1.map kV)) ∧ RelV p.2 q.2.2) kvs xs ∧
      ∃ o es ep, h.get? a = some o ∧ o.ExactDict ∧ o.data = .dict es ep ∧ es.toList = xs.map (entryOfKey (tupleKind (mixKind P w))) ∧ (xs.map (·.1)).Nodup
  | .set S n => h.SetOf (intKind P w) a S n
  | .ins C dx fs => H dx = some (.own a) ∧ fs.length ≤ 1000 ∧ dx ≠ a ∧ h.get? a = some (PySem.W.instObj C dx) ∧
      ∃ mA, h.Ns1 dx mA ∧ (∀ f, RelO (fs.lookup f) (mA f)) ∧ PySem.Within mA (fs.map (·.1))
  | .own _ => ∃ o, h.get? a = some o
  | .xd fs => ∃ mA, h.Ns1 a mA ∧ ∀ f, RelO (fs.lookup f) (mA f)
  | .rng lo hi => ∃ t u v, h.get? a = some { cls := .type "range", data := .fields #[.int lo t, .int hi u, .int 1 v] }
  | .frz o u => h.get? a = some o ∧ ObjOk H h a u
  | .tbl ps => h.get? a = some { cls := .none, data := .fields ps }
  | .met f x => h.get? a = some (PySem.W.methodObj (.ref f) (.ref x))
  | .ext φ => φ h ∧ (∃ o, h.get? a = some o) ∧ ∀ h1 h2 : Heap, φ h1 → (∀ o, h1.get? a = some o → h2.get? a = some o) → φ h2
def HOk (H : Hp) (h : Heap) : Prop := ∀ a o, H a = some o → ObjOk P w H h a o
end
section
variable {P : Program} {w : World} {H H' : Hp} {h h' : Heap} {a : Addr} {o : HO}
theorem ObjOk.lt (x : ObjOk P w H h a o) : a < h.objs.size := by
  cases o with
  | lst xs => obtain ⟨_, _, _, _, e⟩ := x; exact Heap.lt_size e
  | tup xs => obtain ⟨_, _, _, p⟩ := x; exact p.lt
  | dK kvs => obtain ⟨_, _, _, _, o, _, _, e, _⟩ := x; exact Heap.lt_size e
  | dT kvs => obtain ⟨_, _, _, _, o, _, _, e, _⟩ := x; exact Heap.lt_size e
  | set S n => obtain ⟨o, _, _, _, e, _⟩ := x; exact Heap.lt_size e
  | ins C dx fs => obtain ⟨_, _, _, e, _⟩ := x; exact Heap.lt_size e
  | own y => obtain ⟨_, e⟩ := x; exact Heap.lt_size e
  | xd fs => obtain ⟨_, ⟨_, _, _, e, _⟩, _⟩ := x; exact Heap.lt_size e
  | rng lo hi => obtain ⟨_, _, _, e⟩ := x; exact Heap.lt_size e
  | frz ob u => obtain ⟨e, _⟩ := x; exact Heap.lt_size e
  | tbl ps => exact Heap.lt_size (show h.get? a = some _ from x)
  | met f y => exact Heap.lt_size (show h.get? a = some _ from x)
  | ext φ => obtain ⟨_, ⟨_, e⟩, _⟩ := x; exact Heap.lt_size e
theorem Paired.mapP {α β : Type} {F G : α → β → Prop} : ∀ {l₁ : List α} {l₂ : List β}, Paired F l₁ l₂ → (∀ a b, F a b → G a b) → Paired G l₁ l₂
  | _, _, .nil, _ => .nil
  | _, _, .cons r t, f => .cons (f _ _ r) (Paired.mapP t f)
theorem ObjOk.stay (x : ObjOk P w H h a o) (k : ∀ b u, (b = a ∨ H b = some (.own a)) → h.get? b = some u → h'.get? b = some u)
    (ho : ∀ b, H b = some (.own a) → H' b = some (.own a)) (ht : ∀ b xs, H b = some (.tup xs) → H' b = some (.tup xs)) : ObjOk P w H' h' a o := by
  induction o with
  | lst xs => obtain ⟨z, its, n, r, e⟩ := x; exact ⟨z, its, n, r, k _ _ (.inl rfl) e⟩
  | tup xs => obtain ⟨z, its, r, ob, e, c⟩ := x; exact ⟨z, its, r, ob, k _ _ (.inl rfl) e, c⟩
  | dK kvs => obtain ⟨z, y, vs, r, ob, es, ep, e, c⟩ := x; exact ⟨z, y, vs, r, ob, es, ep, k _ _ (.inl rfl) e, c⟩
  | dT kvs =>
    obtain ⟨z, y, xs, r, ob, es, ep, e, c⟩ := x
    exact ⟨z, y, xs, Paired.mapP r fun p q z => ⟨z.1, ht _ _ z.2.1, z.2.2⟩, ob, es, ep, k _ _ (.inl rfl) e, c⟩
  | set S n => obtain ⟨ob, es, ep, t, e, c⟩ := x; exact ⟨ob, es, ep, t, k _ _ (.inl rfl) e, c⟩
  | ins C dx fs =>
    obtain ⟨d, z, ne, e, mA, ⟨od, es, ep, e2, c⟩, r⟩ := x
    exact ⟨ho _ d, z, ne, k _ _ (.inl rfl) e, mA, ⟨od, es, ep, k _ _ (.inr d) e2, c⟩, r⟩
  | own y => obtain ⟨ob, e⟩ := x; exact ⟨ob, k _ _ (.inl rfl) e⟩
  | xd fs => obtain ⟨mA, ⟨od, es, ep, e, c⟩, r⟩ := x; exact ⟨mA, ⟨od, es, ep, k _ _ (.inl rfl) e, c⟩, r⟩
  | rng lo hi => obtain ⟨t, u, v, e⟩ := x; exact ⟨t, u, v, k _ _ (.inl rfl) e⟩
  | frz ob u ih => obtain ⟨e, q⟩ := x; exact ⟨k _ _ (.inl rfl) e, ih q⟩
  | tbl ps =>
    have e : h.get? a = some { cls := .none, data := .fields ps } := x
    show h'.get? a = some { cls := .none, data := .fields ps }
    exact k a _ (.inl rfl) e
  | met f y =>
    have e : h.get? a = some (PySem.W.methodObj (.ref f) (.ref y)) := x
    show h'.get? a = some (PySem.W.methodObj (.ref f) (.ref y))
    exact k a _ (.inl rfl) e
  | ext φ => obtain ⟨p, ⟨o, e⟩, st⟩ := x; exact ⟨st _ _ p fun o q => k _ _ (.inl rfl) q, ⟨o, k _ _ (.inl rfl) e⟩, st⟩
theorem HOk.lt (x : HOk P w H h) (e : H a = some o) : a < h.objs.size := (x a o e).lt
theorem HOk.fresh (x : HOk P w H h) (e : h.objs.size ≤ a) : H a = none := by
  cases q : H a with
  | none => rfl
  | some u => exact absurd (Nat.lt_of_lt_of_le (x.lt q) e) (Nat.lt_irrefl _)
theorem HOk.kept (x : HOk P w H h) (k : ∀ b u, h.get? b = some u → h'.get? b = some u) : HOk P w H h' := fun a o e =>
  (x a o e).stay (fun b u _ q => k b u q) (fun _ q => q) fun _ _ q => q
theorem HOk.laid (x : HOk P w H h) (k : ∀ b u, h.get? b = some u → h'.get? b = some u) (hp : h.objs.size ≤ a) (new : ObjOk P w (upd H a o) h' a o) : HOk P w (upd H a o) h' := fun b u e => by
  have hn := x.fresh hp
  by_cases hb : b = a
  · subst hb; rw [upd_same] at e; cases e; exact new
  · rw [upd_ne hb] at e
    exact (x b u e).stay (fun c v _ q => k c v q) (fun c q => by rw [upd_ne (ne_of_none q hn)]; exact q) fun c xs q => by rw [upd_ne (ne_of_none q hn)]; exact q
end
def Rd (H : Hp) (a : Addr) (u : HO) : Prop := H a = some u ∨ ∃ o, H a = some (.frz o u)
theorem Rd.ok {P : Program} {w : World} {H : Hp} {h : Heap} {a : Addr} {u : HO} (r : Rd H a u) (x : HOk P w H h) : ObjOk P w H h a u := by
  rcases r with r | ⟨o, r⟩
  · exact x a u r
  · obtain ⟨_, q⟩ := x a _ r
    exact q
def Mut : Option HO → Prop
  | some (.lst _) => True
  | some (.dK _) => True
  | some (.dT _) => True
  | some (.set _ _) => True
  | some (.ins _ _ _) => True
  | some (.ext _) => True
  | _ => False
section
variable {P : Program} {w : World} {H : Hp} {h h' : Heap} {x e : Addr} {o' : HO}
theorem HOk.write (ok : HOk P w H h) (mu : Mut (H x)) (he : e = x ∨ H e = some (.own x)) (k : ∀ b u, b ≠ e → h.get? b = some u → h'.get? b = some u) (heo : ∃ u, h'.get? e = some u)
    (new : ObjOk P w (upd H x o') h' x o') : HOk P w (upd H x o') h' := fun b u q => by
  have nown : ∀ c y, H c = some (.own y) → c ≠ x := fun c y r z => by subst z; rw [r] at mu; exact mu
  have ntup : ∀ c xs, H c = some (.tup xs) → c ≠ x := fun c xs r z => by subst z; rw [r] at mu; exact mu
  by_cases hb : b = x
  · subst hb; rw [upd_same] at q; cases q; exact new
  · rw [upd_ne hb] at q
    by_cases hbe : b = e
    · have q' : H b = some (.own x) := by
        rcases he with z | z
        · exact absurd (hbe.trans z) hb
        · rw [hbe]; exact z
      rw [q] at q'; cases q'
      obtain ⟨v, hv⟩ := heo
      exact ⟨v, by rw [hbe]; exact hv⟩
    · refine (ok b u q).stay (fun c v hc r => k c v ?_ r) (fun c r => by rw [upd_ne (nown c b r)]; exact r) fun c xs r => by rw [upd_ne (ntup c xs r)]; exact r
      rcases hc with rfl | hc
      · exact hbe
      · rintro rfl
        rcases he with z | z
        · exact nown c b hc z
        · rw [hc] at z; cases z; exact hb rfl
end
structure Un (fs ex : List Addr) (H H' : Hp) (h h' : Heap) : Prop where
  keep : ∀ b o, h.get? b = some o → H b = none → b ∉ fs → b ∉ ex → h'.get? b = some o
  slot : ∀ b o, h.get? b = some o → H b = none → b ∈ fs → b ∉ ex → ∃ sl, h'.get? b = some { o with slots := sl }
  free : ∀ b o, h.get? b = some o → H b = none → b ∉ ex → H' b = none
  there : ∀ b o, h.get? b = some o → b ∉ ex → ∃ o', h'.get? b = some o'
  tups : ∀ b xs, H b = some (.tup xs) → H' b = some (.tup xs)
  frzs : ∀ b o u, H b = some (.frz o u) → H' b = some (.frz o u)
  tbls : ∀ b ps, H b = some (.tbl ps) → ∃ more, H' b = some (.tbl (ps ++ more))
section
variable {fs fs' ex ex' : List Addr} {H H1 H2 : Hp} {h h1 h2 h' : Heap} {a x e : Addr} {o : HO}
theorem Un.any (u : Un fs ex H H1 h h1) {b : Addr} {ob : Obj} (q : h.get? b = some ob) (n : H b = none) (hx : b ∉ ex) : ∃ sl, h1.get? b = some { ob with slots := sl } := by
  by_cases hb : b ∈ fs
  · exact u.slot b ob q n hb hx
  · exact ⟨ob.slots, u.keep b ob q n hb hx⟩
theorem Un.kept (k : ∀ b u, h.get? b = some u → h'.get? b = some u) : Un fs ex H H h h' :=
  ⟨fun b ob q _ _ _ => k b ob q, fun b ob q _ _ _ => ⟨ob.slots, k b ob q⟩, fun _ _ _ n _ => n, fun b ob q _ => ⟨ob, k b ob q⟩, fun _ _ q => q, fun _ _ _ q => q, fun _ ps q => ⟨#[], by rw [q]; simp⟩⟩
theorem Un.refl : Un fs ex H H h h := Un.kept fun _ _ q => q
theorem Un.laid (k : ∀ b u, h.get? b = some u → h'.get? b = some u) (hp : h.objs.size ≤ a) (hn : H a = none) : Un fs ex H (upd H a o) h h' where
  keep := fun b u q _ _ _ => k b u q
  slot := fun b u q _ _ _ => ⟨u.slots, k b u q⟩
  free := fun b u q n _ => by rw [upd_ne (Nat.ne_of_lt (Nat.lt_of_lt_of_le (Heap.lt_size q) hp))]; exact n
  there := fun b u q _ => ⟨u, k b u q⟩
  tups := fun b xs q => by rw [upd_ne (ne_of_none q hn)]; exact q
  frzs := fun b u xs q => by rw [upd_ne (ne_of_none q hn)]; exact q
  tbls := fun b ps q => ⟨#[], by rw [upd_ne (ne_of_none q hn), q]; simp⟩
theorem Un.write (mu : Mut (H x)) (he : e = x ∨ H e = some (.own x)) (k : ∀ b u, b ≠ e → h.get? b = some u → h'.get? b = some u) (heo : ∃ u, h'.get? e = some u) : Un fs ex H (upd H x o) h h' := by
  have hx : ∀ b, H b = none → b ≠ x := fun b n z => by subst z; rw [n] at mu; exact mu
  have hb : ∀ b, H b = none → b ≠ e := fun b n z => by
    subst z
    rcases he with r | r
    · exact hx b n r
    · rw [n] at r; cases r
  have hm : ∀ b u, H b = some u → ¬ Mut (some u) → b ≠ x := fun b u q nm z => by subst z; rw [q] at mu; exact nm mu
  refine ⟨fun b u q n _ _ => k b u (hb b n) q, fun b u q n _ _ => ⟨u.slots, k b u (hb b n) q⟩, fun b u q n _ => by rw [upd_ne (hx b n)]; exact n, fun b u q _ => ?_,
    fun b xs q => by rw [upd_ne (hm b _ q fun z => z)]; exact q, fun b u xs q => by rw [upd_ne (hm b _ q fun z => z)]; exact q, fun b ps q => ⟨#[], by rw [upd_ne (hm b _ q fun z => z), q]; simp⟩⟩
  by_cases hbe : b = e
  · subst hbe; exact heo
  · exact ⟨u, k b u hbe q⟩
end
def trk (h : Heap) (H : Hp) : List Addr := (List.range h.objs.size).filter fun a => (H a).isSome
def hidT (h : Heap) (H : Hp) : Heap := PySem.W.hideAll h (trk h H)
theorem hidT_size (h : Heap) (H : Hp) : (hidT h H).objs.size = h.objs.size := PySem.W.hideAll_size _ _
theorem hidT_get {h : Heap} {H : Hp} {b : Addr} {o : Obj} (e : h.get? b = some o) (n : H b = none) : (hidT h H).get? b = some o :=
  PySem.W.hideAll_get _ e fun hm => by
    have q : (H b).isSome = true := (List.mem_filter.mp hm).2
    rw [n] at q; simp at q
theorem of_hidT {h : Heap} {H : Hp} {b : Addr} {o : Obj} (e : (hidT h H).get? b = some o) : h.get? b = some o ∧ H b = none := by
  have e' : h.get? b = some o := PySem.W.of_hideAll (trk h H) e
  refine ⟨e', ?_⟩
  cases q : H b with
  | none => rfl
  | some x =>
    have hm : b ∈ trk h H := List.mem_filter.mpr ⟨List.mem_range.mpr (Heap.lt_size e'), by simp [q]⟩
    have z : (hidT h H).get? b = none := PySem.W.hideAll_none (trk h H) hm
    rw [z] at e; cases e
end L2
namespace L2
open PySem PySem.Spec PyProof.Rows
structure Mod (K : PySem.W.Frag) (mg : Str → Option Value) (base : Heap) : Prop where
  kin : K.In base
  glob : base.Ns mainGlobals mg
  blt : ∃ mb, base.Ns builtinsNs mb ∧ ∀ x : Str, x ≠ "__name__" → mb x = bootBuiltins x
  nolimit : base.NoLimit
structure Cx where
  prog : Program
  w : World
  K : PySem.W.Frag
  mg : Str → Option Value
  base : Heap
  A : Around
  N : List Str
  s_0 : Shared
  H_0 : Hp
  env : Env
  outer : List Env
  stack : List Env
  ex : List Addr
  fn : Str → Bool
  calm : Bool
  pn : List (Addr × Obj)
  xe : Value → Shared → Prop
def frs (l : List Env) : List Addr := l.filterMap (·.frame)
abbrev Cx.fs (X : Cx) : List Addr := frs X.outer
def Vis (sc : Scope) (x : Str) : Prop := sc.names.lookup x = some .local ∨ sc.names.lookup x = some .cell ∨ sc.names.lookup x = some .free
def Loc (sc : Scope) (x : Str) : Prop := sc.names.lookup x = some .local ∨ sc.names.lookup x = some .cell
def Look (env : Env) (h : Heap) (m : Str → Option Value) (x : Str) (u : Value) : Prop :=
  (env.kindOf x = some .local ∧ m x = some u) ∨ ((env.kindOf x = some .cell ∨ env.kindOf x = some .free) ∧ ∃ c, env.cells.lookup x = some c ∧ h.IsCell c (some u))
structure Cx.Ok (X : Cx) : Prop where
  mod : Mod X.K X.mg X.base
  kind : X.env.scope.kind = .function
  glob : X.env.globals = mainGlobals
  blt : X.env.builtins = builtinsNs
  above : X.s_0.heap.objs.size ≤ X.env.locals
  inj : ∀ x y c, X.env.cells.lookup x = some c → X.env.cells.lookup y = some c → x = y
  has : ∀ x, (X.env.kindOf x = some .cell ∨ X.env.kindOf x = some .free) → ∃ c, X.env.cells.lookup x = some c
  cab : ∀ x c, X.fn x = true → X.env.cells.lookup x = some c → X.s_0.heap.objs.size ≤ c
  hd : X.calm = true → X.A.handled = none
  frames : X.A.frames = some X.stack
  stk : X.stack = X.outer ∨ (X.stack = X.env :: X.outer ∧ X.env.frame = some X.env.locals)
  exf : ∀ b ∈ X.ex, b ≠ X.env.locals ∧ ∀ x c, X.env.cells.lookup x = some c → c ≠ b
  bs : ∀ b o, X.base.get? b = some o → X.s_0.heap.get? b = some o ∧ X.H_0 b = none
  bsz : X.base.objs.size ≤ X.s_0.heap.objs.size
  noex : ∀ b o, X.base.get? b = some o → b ∉ X.ex
  exfs : ∀ b ∈ X.ex, b ∉ X.fs
  funs : X.s_0.heap.FunFrames X.base X.outer
  frf : ∀ b ∈ X.fs, X.H_0 b = none
structure Inv (X : Cx) (pins : List (Addr × Obj)) (σ : List (Option V)) (H : Hp) (s : Shared) : Prop where
  ok : X.Ok
  os : s.os = X.s_0.os
  bare : AllBare s.gens
  base : Un X.fs X.ex X.H_0 H X.s_0.heap s.heap
  loc : ∃ m, s.heap.Ns X.env.locals m ∧ ∀ (i : Nat) (x : Str) (v : V), X.N[i]? = some x → σ[i]? = some (some v) → Vis X.env.scope x → ∃ u, RelV v u ∧ Look X.env s.heap m x u
  cell : ∀ x c, X.env.cells.lookup x = some c → ∃ v, s.heap.IsCell c v
  free : H X.env.locals = none
  freeC : ∀ x c, X.env.cells.lookup x = some c → H c = none
  pin : ∀ p ∈ X.pn ++ pins, s.heap.get? p.1 = some p.2 ∧ H p.1 = none ∧ p.1 ≠ X.env.locals ∧ p.1 ∉ X.fs ∧ ∀ v, p.2.data ≠ .cell v
  hok : HOk X.prog X.w H s.heap
  len : σ.length = X.N.length
section
variable {X : Cx} {pins : List (Addr × Obj)} {σ : List (Option V)} {H H' : Hp} {s : Shared} {h' : Heap}
theorem Cx.Ok.nofr (ok : X.Ok) {b : Addr} {o : Obj} (e : X.base.get? b = some o) : b ∉ X.fs := fun hb => by
  have := (ok.funs.mem hb).1
  rw [e] at this; cases this
theorem Inv.bs (I : Inv X pins σ H s) : ∀ b o, X.base.get? b = some o → s.heap.get? b = some o ∧ H b = none := fun b o e =>
  ⟨I.base.keep b o (I.ok.bs b o e).1 (I.ok.bs b o e).2 (I.ok.nofr e) (I.ok.noex b o e), I.base.free b o (I.ok.bs b o e).1 (I.ok.bs b o e).2 (I.ok.noex b o e)⟩
theorem Inv.bk (I : Inv X pins σ H s) : ∀ b o, X.base.get? b = some o → s.heap.get? b = some o := fun b o e => (I.bs b o e).1
theorem Inv.mod (I : Inv X pins σ H s) : Mod X.K X.mg X.base := I.ok.mod
theorem Inv.kIn (I : Inv X pins σ H s) : X.K.In s.heap := I.ok.mod.kin.keeps I.bk
theorem Inv.lt (I : Inv X pins σ H s) : X.env.locals < s.heap.objs.size := let ⟨_, hn, _⟩ := I.loc; hn.lt
theorem Inv.sz (I : Inv X pins σ H s) : X.s_0.heap.objs.size ≤ s.heap.objs.size := Nat.le_trans I.ok.above (Nat.le_of_lt I.lt)
theorem Inv.nofs (I : Inv X pins σ H s) {a : Addr} (h : s.heap.objs.size ≤ a) : a ∉ X.fs := fun hb => by
  obtain ⟨_, o, ho, _⟩ := I.ok.funs.mem hb
  exact absurd (Nat.lt_of_lt_of_le (Heap.lt_size ho) (Nat.le_trans I.sz h)) (Nat.lt_irrefl _)
theorem Inv.cne (I : Inv X pins σ H s) : ∀ x c, X.env.cells.lookup x = some c → c ≠ X.env.locals := fun x c e z => by
  obtain ⟨v, o, ho, hd⟩ := I.cell x c e
  obtain ⟨m, ⟨o', es, ep, ho', hd', _⟩, _⟩ := I.loc
  rw [z, ho'] at ho; cases ho; rw [hd'] at hd; cases hd
theorem Inv.funs (I : Inv X pins σ H s) : s.heap.FunFrames X.base X.outer := by
  have all : ∀ (l : List Env), (∀ b ∈ frs l, b ∈ X.fs) → X.s_0.heap.FunFrames X.base l → s.heap.FunFrames X.base l := by
    intro l
    induction l with
    | nil => intro _ _; trivial
    | cons env r ih =>
      intro hs hl
      obtain ⟨hk, ⟨L, o, hf, hn, ho, hd⟩, hr⟩ := hl
      have hL : L ∈ X.fs := hs L (by unfold frs; rw [List.filterMap_cons, hf]; exact List.mem_cons_self)
      obtain ⟨sl, e⟩ := I.base.slot L o ho (I.ok.frf L hL) hL fun z => I.ok.exfs L z hL
      exact ⟨hk, ⟨L, _, hf, hn, e, hd⟩, ih (fun b hb => hs b (by unfold frs; rw [List.filterMap_cons, hf]; exact List.mem_cons_of_mem _ hb)) hr⟩
  exact all X.outer (fun _ hb => hb) I.ok.funs
theorem Inv.stack (I : Inv X pins σ H s) : s.heap.FunFrames X.base X.stack := by
  rcases I.ok.stk with e | ⟨e, hf⟩
  · rw [e]; exact I.funs
  · rw [e]
    obtain ⟨m, hn, _⟩ := I.loc
    refine .cons (by rw [I.ok.kind]; decide) hf hn ?_ I.funs
    exact Heap.get?_none_of_le (Nat.le_trans I.ok.bsz I.ok.above)
theorem Inv.stkSub (I : Inv X pins σ H s) : ∀ b ∈ frs X.stack, b ∈ X.env.locals :: X.fs := fun b hb => by
  rcases I.ok.stk with e | ⟨e, hf⟩
  · rw [e] at hb; exact List.mem_cons_of_mem _ hb
  · rw [e] at hb
    unfold frs at hb
    rw [List.filterMap_cons, hf] at hb
    exact hb
theorem Inv.stkFree (I : Inv X pins σ H s) : ∀ b ∈ frs X.stack, H b = none := fun b hb => by
  rcases List.mem_cons.mp (I.stkSub b hb) with e | hb
  · rw [e]; exact I.free
  · obtain ⟨_, o, ho, _⟩ := I.ok.funs.mem hb
    exact I.base.free b o ho (I.ok.frf b hb) fun z => I.ok.exfs b z hb
theorem Inv.step {g' : Array GenState} {t' : Nat} {d' : Drawn} {ch : List Addr} (I : Inv X pins σ H s)
    (hch : ∀ b ∈ ch, (b ∈ X.ex ∨ X.s_0.heap.objs.size ≤ b) ∧ b ≠ X.env.locals ∧ (∀ x c, X.env.cells.lookup x = some c → c ≠ b) ∧ ∀ p ∈ X.pn ++ pins, p.1 ≠ b)
    (keep : ∀ b o, b ≠ X.env.locals → b ∉ X.fs → b ∉ ch → s.heap.get? b = some o → H b = none → h'.get? b = some o)
    (slot : ∀ b o, b ≠ X.env.locals → b ∈ X.fs → b ∉ ch → s.heap.get? b = some o → H b = none → ∃ sl, h'.get? b = some { o with slots := sl }) (free : ∀ b o, b ∉ ch → s.heap.get? b = some o → H b = none → H' b = none)
    (there : ∀ b o, b ∉ ch → s.heap.get? b = some o → ∃ o', h'.get? b = some o')
    (tups : ∀ b xs, H b = some (.tup xs) → H' b = some (.tup xs)) (frzs : ∀ b o u, H b = some (.frz o u) → H' b = some (.frz o u)) (tbls : ∀ b ps, H b = some (.tbl ps) → ∃ more, H' b = some (.tbl (ps ++ more)))
    (ns : ∀ m, s.heap.Ns X.env.locals m → h'.Ns X.env.locals m) (hok : HOk X.prog X.w H' h') (hg : AllBare g') :
    Inv X pins σ H' { s with heap := h', gens := g', drawn := d', toks := t' } := by
  have neL : ∀ b o, X.s_0.heap.get? b = some o → b ≠ X.env.locals := fun b o e => Nat.ne_of_lt (Nat.lt_of_lt_of_le (Heap.lt_size e) I.ok.above)
  have neC : ∀ b o, X.s_0.heap.get? b = some o → b ∉ X.ex → b ∉ ch := fun b o e hx hb => by
    rcases (hch b hb).1 with z | z
    · exact hx z
    · exact absurd (Nat.lt_of_lt_of_le (Heap.lt_size e) z) (Nat.lt_irrefl _)
  have cellK : ∀ x c, X.env.cells.lookup x = some c → ∀ v, s.heap.IsCell c v → h'.IsCell c v := fun x c e v ⟨o, ho, hd⟩ => by
    have nch : c ∉ ch := fun z => (hch c z).2.2.1 x c e rfl
    by_cases hc : c ∈ X.fs
    · obtain ⟨sl, q⟩ := slot c o (I.cne x c e) hc nch ho (I.freeC x c e)
      exact ⟨_, q, hd⟩
    · exact ⟨o, keep c o (I.cne x c e) hc nch ho (I.freeC x c e), hd⟩
  refine ⟨I.ok, I.os, hg, ⟨fun b o e n hb hx => ?_, fun b o e n hb hx => ?_, fun b o e n hx => ?_, fun b o e hx => ?_, fun b xs e => tups b xs (I.base.tups b xs e), fun b o xs e => frzs b o xs (I.base.frzs b o xs e), fun b ps e => ?_⟩, ?_, fun x c e => ?_, ?_, fun x c e => ?_, fun p hp => ?_, hok, I.len⟩
  · exact keep b o (neL b o e) hb (neC b o e hx) (I.base.keep b o e n hb hx) (I.base.free b o e n hx)
  · obtain ⟨sl, e1⟩ := I.base.slot b o e n hb hx
    obtain ⟨sl', e2⟩ := slot b _ (neL b o e) hb (neC b o e hx) e1 (I.base.free b o e n hx)
    exact ⟨sl', e2⟩
  · obtain ⟨o', e1⟩ := I.base.there b o e hx
    exact free b o' (neC b o e hx) e1 (I.base.free b o e n hx)
  · obtain ⟨o', e1⟩ := I.base.there b o e hx
    exact there b o' (neC b o e hx) e1
  · obtain ⟨m1, e1⟩ := I.base.tbls b ps e
    obtain ⟨m2, e2⟩ := tbls b _ e1
    exact ⟨m1 ++ m2, by rw [e2, Array.append_assoc]⟩
  · obtain ⟨m, hn, hl⟩ := I.loc
    refine ⟨m, ns m hn, fun i x v e1 e2 e3 => ?_⟩
    obtain ⟨u, r, l⟩ := hl i x v e1 e2 e3
    refine ⟨u, r, ?_⟩
    rcases l with l | ⟨k, c, e, z⟩
    · exact .inl l
    · exact .inr ⟨k, c, e, cellK x c e _ z⟩
  · obtain ⟨v, z⟩ := I.cell x c e
    exact ⟨v, cellK x c e v z⟩
  · obtain ⟨m, ⟨o, _, _, ho, _⟩, _⟩ := I.loc
    exact free _ o (fun z => (hch _ z).2.1 rfl) ho I.free
  · obtain ⟨v, o, ho, hd⟩ := I.cell x c e
    exact free c o (fun z => (hch c z).2.2.1 x c e rfl) ho (I.freeC x c e)
  · obtain ⟨e, n, ne, nf, d⟩ := I.pin p hp
    have nch : p.1 ∉ ch := fun z => (hch p.1 z).2.2.2 p hp rfl
    exact ⟨keep p.1 p.2 ne nf nch e n, free p.1 p.2 nch e n, ne, nf, d⟩
theorem Inv.un {t' : Nat} (I : Inv X pins σ H s) (u : Un X.fs [] H H' s.heap h') (hok : HOk X.prog X.w H' h') : Inv X pins σ H' { s with heap := h', toks := t' } := by
  obtain ⟨m, ⟨o, es, ep, ho, r⟩, _⟩ := id I.loc
  obtain ⟨sl, hL⟩ := u.any ho I.free (by simp)
  exact I.step (g' := s.gens) (d' := s.drawn) (ch := []) (fun _ z => nomatch z) (fun b o _ hb _ e n => u.keep b o e n hb (by simp)) (fun b o _ hb _ e n => u.slot b o e n hb (by simp)) (fun b o _ e n => u.free b o e n (by simp)) (fun b o _ e => u.there b o e (by simp)) u.tups u.frzs u.tbls (fun m' hm => by
    obtain ⟨o', es', ep', ho', r'⟩ := hm
    rw [ho] at ho'; cases ho'
    exact ⟨_, es', ep', hL, r'⟩) hok I.bare
theorem Inv.call {g' : Array GenState} {t' : Nat} {d' : Drawn} {ch : List Addr} (I : Inv X pins σ H s) (u : Un (frs X.stack) ch H H' s.heap h') (hok : HOk X.prog X.w H' h') (hg : AllBare g')
    (hch : ∀ b ∈ ch, (b ∈ X.ex ∨ X.s_0.heap.objs.size ≤ b) ∧ b ≠ X.env.locals ∧ (∀ x c, X.env.cells.lookup x = some c → c ≠ b) ∧ ∀ p ∈ X.pn ++ pins, p.1 ≠ b) :
    Inv X pins σ H' { s with heap := h', gens := g', drawn := d', toks := t' } := by
  obtain ⟨m, ⟨o, es, ep, ho, r⟩, _⟩ := id I.loc
  obtain ⟨sl, hL⟩ := u.any ho I.free fun z => (hch _ z).2.1 rfl
  exact I.step (ch := ch) hch (fun b o hL hb hc e n => u.keep b o e n (fun z => (List.mem_cons.mp (I.stkSub b z)).elim hL hb) hc) (fun b o _ _ hc e n => u.any e n hc) (fun b o hc e n => u.free b o e n hc) (fun b o hc e => u.there b o e hc) u.tups u.frzs u.tbls (fun m' hm => by
    obtain ⟨o', es', ep', ho', r'⟩ := hm
    rw [ho] at ho'; cases ho'
    exact ⟨_, es', ep', hL, r'⟩) hok hg
theorem Inv.turned {t' : Nat} {it : Addr} (I : Inv X pins σ H s) (k : ∀ b o, b ≠ it → s.heap.get? b = some o → h'.get? b = some o) (hn : H it = none) (hL : it ≠ X.env.locals)
    (h1 : it ∈ X.ex ∨ X.s_0.heap.objs.size ≤ it) (h2 : ∀ x c, X.env.cells.lookup x = some c → c ≠ it) (h3 : ∀ p ∈ X.pn ++ pins, p.1 ≠ it) : Inv X pins σ H { s with heap := h', toks := t' } := by
  have nit : ∀ b u, H b = some u → b ≠ it := fun b u e z => by rw [z, hn] at e; cases e
  refine I.step (g' := s.gens) (d' := s.drawn) (ch := [it]) (fun b hb => ?_) (fun b o _ _ hc e _ => k b o (fun z => hc (by simp [z])) e) (fun b o _ _ hc e _ => ⟨o.slots, k b o (fun z => hc (by simp [z])) e⟩) (fun _ _ _ _ n => n)
    (fun b o hc e => ⟨o, k b o (fun z => hc (by simp [z])) e⟩) (fun _ _ e => e) (fun _ _ _ e => e) (fun b ps e => ⟨#[], by rw [e]; simp⟩) (fun m hm => ?_) (fun b u e => ?_) I.bare
  · have e : b = it := by simpa using hb
    subst e
    exact ⟨h1, hL, h2, h3⟩
  · obtain ⟨o, es, ep, ho, r⟩ := hm
    exact ⟨o, es, ep, k _ o (Ne.symm hL) ho, r⟩
  · refine (I.hok b u e).stay (fun c v hc q => k c v ?_ q) (fun _ q => q) fun _ _ q => q
    rcases hc with z | z
    · rw [z]; exact nit b u e
    · exact nit c _ z
theorem Inv.tok (I : Inv X pins σ H s) (t : Nat) : Inv X pins σ H { s with toks := t } := I.un (h' := s.heap) (t' := t) Un.refl I.hok
theorem Inv.kept {t' : Nat} (I : Inv X pins σ H s) (k : ∀ b u, s.heap.get? b = some u → h'.get? b = some u) : Inv X pins σ H { s with heap := h', toks := t' } := I.un (Un.kept k) (I.hok.kept k)
theorem Inv.laid {a : Addr} {o : HO} {t' : Nat} (I : Inv X pins σ H s) (k : ∀ b u, s.heap.get? b = some u → h'.get? b = some u) (hp : s.heap.objs.size ≤ a) (new : ObjOk X.prog X.w (upd H a o) h' a o) :
    Inv X pins σ (upd H a o) { s with heap := h', toks := t' } := I.un (Un.laid k hp (I.hok.fresh hp)) (I.hok.laid k hp new)
theorem Inv.write {x e : Addr} {o : HO} {t' : Nat} (I : Inv X pins σ H s) (mu : Mut (H x)) (he : e = x ∨ H e = some (.own x)) (k : ∀ b u, b ≠ e → s.heap.get? b = some u → h'.get? b = some u) (heo : ∃ u, h'.get? e = some u)
    (new : ObjOk X.prog X.w (upd H x o) h' x o) : Inv X pins σ (upd H x o) { s with heap := h', toks := t' } := I.un (Un.write mu he k heo) (I.hok.write mu he k heo new)
theorem Inv.weak {σ' : List (Option V)} (I : Inv X pins σ H s) (hl : σ'.length = σ.length) (w : ∀ (i : Nat) v, σ'[i]? = some (some v) → σ[i]? = some (some v)) : Inv X pins σ' H s :=
  ⟨I.ok, I.os, I.bare, I.base, let ⟨m, hn, hl'⟩ := I.loc; ⟨m, hn, fun i x v e1 e2 e3 => hl' i x v e1 (w i v e2) e3⟩, I.cell, I.free, I.freeC, I.pin, I.hok, hl.trans I.len⟩
theorem Inv.pins_of {pins' : List (Addr × Obj)} (I : Inv X pins σ H s) (h : ∀ p ∈ pins', s.heap.get? p.1 = some p.2 ∧ H p.1 = none ∧ p.1 ≠ X.env.locals ∧ p.1 ∉ X.fs ∧ ∀ v, p.2.data ≠ .cell v) : Inv X pins' σ H s :=
  ⟨I.ok, I.os, I.bare, I.base, I.loc, I.cell, I.free, I.freeC, fun p hp => (List.mem_append.mp hp).elim (fun z => I.pin p (List.mem_append_left _ z)) (h p), I.hok, I.len⟩
theorem nodup_ix {N : List Str} (hN : N.Nodup) {i j : Nat} {x : Str} (a : N[i]? = some x) (b : N[j]? = some x) : i = j := by
  obtain ⟨h1, e1⟩ := List.getElem?_eq_some_iff.mp a
  obtain ⟨h2, e2⟩ := List.getElem?_eq_some_iff.mp b
  exact (List.getElem_inj hN).mp (e1.trans e2.symm)
theorem store_ok2 {M : Model} {A : Around} {E : Value → Shared → Prop} {i : Nat} {x : Str} {v : V} {u : Value} {Q : Unit → Shared → Prop} (I : Inv X pins σ H s) (hN : X.N.Nodup) (hi : X.N[i]? = some x) (hx : Loc X.env.scope x) (r : RelV v u)
    (h : ∀ s', Inv X pins (σ.set i (some v)) H s' → (∃ a, Heap.SameBut a s.heap s'.heap ∧ (a = X.env.locals ∨ X.env.cells.lookup x = some a)) → Q () s') (hf : X.fn x = true ∨ X.env.scope.names.lookup x = some .local := by first | exact .inl rfl | exact .inr rfl | assumption) : wpAny M A (storeName X.env x u) Q E s := by
  obtain ⟨m, hn, hl⟩ := id I.loc
  have hcls : (X.env.scope.kind == .class || (X.env.scope.kind == .module && X.env.locals != X.env.globals)) = false := by rw [I.ok.kind]; rfl
  have hiσ : i < σ.length := by rw [I.len]; exact (List.getElem?_eq_some_iff.mp hi).1
  have cne := I.cne
  have tracked : ∀ {a : Addr} {h' : Heap}, (∃ o, s.heap.get? a = some o ∧ H a = none) → Heap.SameBut a s.heap h' → HOk X.prog X.w H h' := fun {a h'} ha hs b ob e => by
    obtain ⟨_, _, hfree⟩ := ha
    refine (I.hok b ob e).stay (fun c w' hc q => (hs.2 c ?_).trans q) (fun _ q => q) fun _ _ q => q
    rintro rfl
    rcases hc with rfl | hc
    · rw [hfree] at e; cases e
    · rw [hfree] at hc; cases hc
  rcases hx with hk | hk
  · refine wpAny_storeName_local hk hn (fun h' hn' hs => ?_) hcls
    obtain ⟨oL, _, _, hoL, _⟩ := id hn
    refine h _ ⟨I.ok, I.os, I.bare, ⟨fun b o e n hb hx => ?_, fun b o e n hb hx => ?_, I.base.free, fun b o e hx => ?_, I.base.tups, I.base.frzs, I.base.tbls⟩, ⟨_, hn', fun j y v' e1 e2 e3 => ?_⟩, fun y c e => ?_, I.free, I.freeC, fun p hp => ?_, tracked ⟨oL, hoL, I.free⟩ hs, by simpa using I.len⟩ ⟨_, hs, .inl rfl⟩
    · exact (hs.2 b (Nat.ne_of_lt (Nat.lt_of_lt_of_le (Heap.lt_size e) I.ok.above))).trans (I.base.keep b o e n hb hx)
    · obtain ⟨sl, e1⟩ := I.base.slot b o e n hb hx
      exact ⟨sl, (hs.2 b (Nat.ne_of_lt (Nat.lt_of_lt_of_le (Heap.lt_size e) I.ok.above))).trans e1⟩
    · obtain ⟨o', e1⟩ := I.base.there b o e hx
      exact ⟨o', (hs.2 b (Nat.ne_of_lt (Nat.lt_of_lt_of_le (Heap.lt_size e) I.ok.above))).trans e1⟩
    · by_cases hj : j = i
      · subst hj
        rw [hi] at e1; cases e1
        rw [List.getElem?_set_self hiσ] at e2
        cases e2
        exact ⟨u, r, .inl ⟨hk, by simp⟩⟩
      · rw [List.getElem?_set_ne (Ne.symm hj)] at e2
        obtain ⟨u', r', q⟩ := hl j y v' e1 e2 e3
        refine ⟨u', r', ?_⟩
        rcases q with ⟨k, e⟩ | ⟨k, c, e, z⟩
        · refine .inl ⟨k, ?_⟩
          have : y ≠ x := fun e => hj (nodup_ix hN e1 (e ▸ hi))
          simp [this, e]
        · exact .inr ⟨k, c, e, z.sameBut hs (cne y c e)⟩
    · obtain ⟨w', z⟩ := I.cell y c e
      exact ⟨w', z.sameBut hs (cne y c e)⟩
    · obtain ⟨e, n, ne, nf, d⟩ := I.pin p hp
      exact ⟨(hs.2 p.1 ne).trans e, n, ne, nf, d⟩
  · have hfn : X.fn x = true := by
      rcases hf with z | z
      · exact z
      · rw [z] at hk; cases hk
    obtain ⟨c, hc⟩ := I.ok.has x (.inl hk)
    obtain ⟨w', z⟩ := I.cell x c hc
    refine wpAny_storeName_cell I.ok.kind hk hc z (fun h' hc' hs => ?_)
    obtain ⟨oc, hoc, hocd⟩ := id z
    refine h { s with heap := h' } ⟨I.ok, I.os, I.bare, ⟨fun b o e n hb hx => ?_, fun b o e n hb hx => ?_, I.base.free, fun b o e hx => ?_, I.base.tups, I.base.frzs, I.base.tbls⟩, ⟨m, hn.sameBut hs (Ne.symm (cne x c hc)), fun j y v' e1 e2 e3 => ?_⟩, fun y c' e => ?_, I.free, I.freeC, fun p hp => ?_, tracked ⟨oc, hoc, I.freeC x c hc⟩ hs, by simpa using I.len⟩ ⟨c, hs, .inr hc⟩
    · exact (hs.2 b (Nat.ne_of_lt (Nat.lt_of_lt_of_le (Heap.lt_size e) (I.ok.cab x c hfn hc)))).trans (I.base.keep b o e n hb hx)
    · obtain ⟨sl, e1⟩ := I.base.slot b o e n hb hx
      exact ⟨sl, (hs.2 b (Nat.ne_of_lt (Nat.lt_of_lt_of_le (Heap.lt_size e) (I.ok.cab x c hfn hc)))).trans e1⟩
    · obtain ⟨o', e1⟩ := I.base.there b o e hx
      exact ⟨o', (hs.2 b (Nat.ne_of_lt (Nat.lt_of_lt_of_le (Heap.lt_size e) (I.ok.cab x c hfn hc)))).trans e1⟩
    · by_cases hj : j = i
      · subst hj
        rw [hi] at e1; cases e1
        rw [List.getElem?_set_self hiσ] at e2
        cases e2
        exact ⟨u, r, .inr ⟨.inl hk, c, hc, hc'⟩⟩
      · rw [List.getElem?_set_ne (Ne.symm hj)] at e2
        obtain ⟨u', r', q⟩ := hl j y v' e1 e2 e3
        refine ⟨u', r', ?_⟩
        rcases q with q | ⟨k, c', e, z'⟩
        · exact .inl q
        · refine .inr ⟨k, c', e, z'.sameBut hs ?_⟩
          rintro rfl
          exact hj (nodup_ix hN e1 (I.ok.inj _ _ _ e hc ▸ hi))
    · by_cases hcc : c' = c
      · subst hcc; exact ⟨_, hc'⟩
      · obtain ⟨w2, z2⟩ := I.cell y c' e
        exact ⟨w2, z2.sameBut hs hcc⟩
    · obtain ⟨e, n, ne, nf, d⟩ := I.pin p hp
      refine ⟨(hs.2 p.1 ?_).trans e, n, ne, nf, d⟩
      intro q
      rw [q, hoc] at e
      have q' : oc = p.2 := Option.some.inj e
      exact d w' (by rw [← q']; exact hocd)
theorem store_ok {M : Model} {A : Around} {E : Value → Shared → Prop} {i : Nat} {x : Str} {v : V} {u : Value} {Q : Unit → Shared → Prop} (I : Inv X pins σ H s) (hN : X.N.Nodup) (hi : X.N[i]? = some x) (hx : Loc X.env.scope x) (r : RelV v u)
    (h : ∀ s', Inv X pins (σ.set i (some v)) H s' → Q () s') (hf : X.fn x = true ∨ X.env.scope.names.lookup x = some .local := by first | exact .inl rfl | exact .inr rfl | assumption) : wpAny M A (storeName X.env x u) Q E s :=
  store_ok2 I hN hi hx r (fun s' I' _ => h s' I') hf
theorem Inv.call' {s' : Shared} {ch : List Addr} (I : Inv X pins σ H s) (ho : s'.os = s.os) (u : Un (frs X.stack) ch H H' s.heap s'.heap) (hok : HOk X.prog X.w H' s'.heap) (hg : AllBare s'.gens)
    (hch : ∀ b ∈ ch, (b ∈ X.ex ∨ X.s_0.heap.objs.size ≤ b) ∧ b ≠ X.env.locals ∧ (∀ x c, X.env.cells.lookup x = some c → c ≠ b) ∧ ∀ p ∈ X.pn ++ pins, p.1 ≠ b) : Inv X pins σ H' s' := by
  obtain ⟨h', g', d', t', o'⟩ := s'
  have e : o' = s.os := ho
  subst e
  exact I.call (g' := g') (t' := t') (d' := d') u hok hg hch
end
abbrev XK := Value → Option Addr → Hp → Prop
abbrev St := List (Option V)
abbrev VK := V → Hp → Prop
abbrev TE := St → Hp → VK → Prop
abbrev TT := St → Hp → (Bool → Hp → Prop) → Prop
abbrev TA := St → Hp → (List V → Hp → Prop) → Prop
structure Ends where
  nx : St → Hp → Prop
  rt : VK
  bk : St → Hp → Prop := fun _ _ => False
  ct : St → Hp → Prop := fun _ _ => False
abbrev TS := Ends → St → Hp → Prop
def EP (X : Cx) (pins : List (Addr × Obj)) (σ : St) (Q : VK) (u : Value) (s' : Shared) : Prop := ∃ v H', Inv X pins σ H' s' ∧ RelV v u ∧ Q v H'
def TP (X : Cx) (pins : List (Addr × Obj)) (σ : St) (Q : Bool → Hp → Prop) (b : Bool) (s' : Shared) : Prop := ∃ H', Inv X pins σ H' s' ∧ Q b H'
def AP (X : Cx) (pins : List (Addr × Obj)) (σ : St) (Q : List V → Hp → Prop) (us : List Value) (s' : Shared) : Prop := ∃ vs H', Inv X pins σ H' s' ∧ Vals vs us ∧ Q vs H'
def SP (X : Cx) (pins : List (Addr × Obj)) (D : Ends) (f : Flow) (s' : Shared) : Prop :=
  match f with
  | .next => ∃ σ' H', Inv X pins σ' H' s' ∧ D.nx σ' H'
  | .brk => ∃ σ' H', Inv X pins σ' H' s' ∧ D.bk σ' H'
  | .cont => ∃ σ' H', Inv X pins σ' H' s' ∧ D.ct σ' H'
  | .ret u => ∃ v σ' H', Inv X pins σ' H' s' ∧ RelV v u ∧ D.rt v H'
def PE (X : Cx) (e : Expr) (t : TE) : Prop :=
  ∀ (pins : List (Addr × Obj)) (s : Shared) (σ : St) (H : Hp) (Q : VK), Inv X pins σ H s → t σ H Q → wpAny (model X.prog X.w) X.A (eval e X.env) (EP X pins σ Q) X.xe s
def PT (X : Cx) (e : Expr) (t : TT) : Prop :=
  ∀ (pins : List (Addr × Obj)) (s : Shared) (σ : St) (H : Hp) (Q : Bool → Hp → Prop), Inv X pins σ H s → t σ H Q → wpAny (model X.prog X.w) X.A (isTrue e X.env (eval e X.env)) (TP X pins σ Q) X.xe s
def PW (X : Cx) (e : Expr) (t : TT) : Prop :=
  ∀ (whole : Sem Value) (pins : List (Addr × Obj)) (s : Shared) (σ : St) (H : Hp) (Q : Bool → Hp → Prop), Inv X pins σ H s → t σ H Q → wpAny (model X.prog X.w) X.A (isTrue e X.env whole) (TP X pins σ Q) X.xe s
theorem PW.pt {X : Cx} {e : Expr} {t : TT} (h : PW X e t) : PT X e t := h _
def PA (X : Cx) (es : List Expr) (t : TA) : Prop :=
  ∀ (pos : Pos) (pins : List (Addr × Obj)) (s : Shared) (σ : St) (H : Hp) (Q : List V → Hp → Prop), Inv X pins σ H s → t σ H Q → wpAny (model X.prog X.w) X.A (spliced (backTo pos (starEach es X.env))) (AP X pins σ Q) X.xe s
def PS (X : Cx) (st : Stmt) (t : TS) : Prop :=
  ∀ (pins : List (Addr × Obj)) (s : Shared) (σ : St) (H : Hp) (D : Ends), Inv X pins σ H s → t D σ H → wpAny (model X.prog X.w) X.A (exec st X.env) (SP X pins D) X.xe s
def PSs (X : Cx) (st : List Stmt) (t : TS) : Prop :=
  ∀ (pins : List (Addr × Obj)) (s : Shared) (σ : St) (H : Hp) (D : Ends), Inv X pins σ H s → t D σ H → wpAny (model X.prog X.w) X.A (execs st X.env) (SP X pins D) X.xe s
theorem thn {α : Type} {t : Sem α} {Q Q' : α → Shared → Prop} {M : Model} {A : Around} {E : Value → Shared → Prop} {s : Shared} (h : wpAny M A t Q E s) (hQ : ∀ a s, Q a s → Q' a s) : wpAny M A t Q' E s := wpAny_mono h hQ fun _ _ x => x
end L2
namespace L2
open PySem PySem.Spec PyProof.Rows
section
variable {X : Cx}
def tVar (i : Nat) : TE := fun σ H Q => ∃ v, σ[i]? = some (some v) ∧ Q v H
def tC (v : V) : TE := fun _ H Q => Q v H
theorem pe_var {i : Nat} {x : Str} {pos : Pos} (hN : X.N[i]? = some x) (hv : Vis X.env.scope x) (hd : (x == ("__debug__" : Str)) = false := by decide) (hcd : (x == ("__classdict__" : Str)) = false := by decide) : PE X (.Name x pos) (tVar i) := by
  intro pins s σ H Q I h
  obtain ⟨v, e, h⟩ := h
  obtain ⟨m, hn, hl⟩ := I.loc
  obtain ⟨u, r, l⟩ := hl i x v hN e hv
  have fin : EP X pins σ Q u s := ⟨v, H, I, r, h⟩
  rcases l with ⟨hk, hm⟩ | ⟨hk, c, hc, hcell⟩
  · exact wpAny_Name (wpAny_loadName_local I.ok.kind hk hn hm fin) hd
  · rcases hk with hk | hk
    · exact wpAny_Name (wpAny_loadName_cell I.ok.kind hk hc hcell fin) hd
    · exact wpAny_Name (wpAny_loadName_free I.ok.kind hk hc hcell fin hcd) hd
theorem pe_int {i j pos} : PE X (.Constant (.int i) j pos) (tC (.int i)) := fun _ _ _ H _ I h => wpAny_Constant_int ⟨.int i, H, I.tok _, ⟨_, rfl⟩, h⟩
theorem pe_bl {b j pos} : PE X (.Constant (.bool b) j pos) (tC (.bl b)) := fun _ _ _ H _ I h => Constant_bool ⟨.bl b, H, I, rfl, h⟩
def Gl (X : Cx) (x : Str) : Prop := X.env.kindOf x = some .globalImplicit
theorem ld_glob {E : Value → Shared → Prop} {pins : List (Addr × Obj)} {s : Shared} {σ : St} {H : Hp} {x : Str} {u : Value} {pos : Pos} {Q : Value → Shared → Prop} (I : Inv X pins σ H s) (hg : Gl X x) (hm : X.mg x = some u) (h : Q u s)
    (hd : (x == ("__debug__" : Str)) = false := by decide) : wpAny (model X.prog X.w) X.A (eval (.Name x pos) X.env) Q E s :=
  Calls.Name_function_global I.ok.kind hg (Calls.loadGlobal_global (by rw [I.ok.glob]; exact I.mod.glob.keeps I.bk) hm h) hd
theorem ld_blt {E : Value → Shared → Prop} {pins : List (Addr × Obj)} {s : Shared} {σ : St} {H : Hp} {x : Str} {u : Value} {pos : Pos} {Q : Value → Shared → Prop} (I : Inv X pins σ H s) (hg : Gl X x) (hm : X.mg x = none) (hv : bootBuiltins x = some u) (h : Q u s)
    (hn : x ≠ "__name__" := by decide) (hd : (x == ("__debug__" : Str)) = false := by decide) : wpAny (model X.prog X.w) X.A (eval (.Name x pos) X.env) Q E s := by
  obtain ⟨mb, h1, h2⟩ := I.mod.blt
  exact Calls.Name_function_global I.ok.kind hg (Calls.loadGlobal_builtin (by rw [I.ok.glob]; exact I.mod.glob.keeps I.bk) hm (by rw [I.ok.blt]; exact h1.keeps I.bk) ((h2 x hn).trans hv) h) hd
theorem pe_glob {x : Str} {v : V} {u : Value} {pos : Pos} (hg : Gl X x) (hm : X.mg x = some u) (r : RelV v u) (hd : (x == ("__debug__" : Str)) = false := by decide) : PE X (.Name x pos) (tC v) :=
  fun _ _ _ H _ I h => ld_glob I hg hm ⟨v, H, I, r, h⟩ hd
variable {a b : Expr} {ta tb : TE} {pos : Pos}
def PC (X : Cx) (op : CmpOp) (a b : Expr) (t : TE) : Prop :=
  ∀ (pins : List (Addr × Obj)) (s : Shared) (σ : St) (H : Hp) (Q : VK), Inv X pins σ H s → t σ H Q →
    wpAny (model X.prog X.w) X.A (eval a X.env) (fun v s₁ => wpAny (model X.prog X.w) X.A (eval b X.env) (fun u s₂ => wpAny (model X.prog X.w) X.A (compareOp op v u) (EP X pins σ Q) X.xe s₂) X.xe s₁) X.xe s
def tB (t : TE) : TT := fun σ H Q => t σ H fun x H1 => ∃ c, x = .bl c ∧ Q c H1
theorem pt_cmp {op : CmpOp} {t : TE} (h : PC X op a b t) (h1 : behindInMarks op b = false := by first | exact nobehind _ (by decide) (by decide) | rfl) : PT X (.Compare a [op] [b] pos) (tB t) := by
  intro pins s σ H Q I hw
  refine wpAny_isTrue_Compare1 (thn (h pins s σ H _ I hw) fun v s1 h1 => thn h1 fun u s2 h2 => thn h2 fun c s3 ⟨x, H1, I1, r1, q1⟩ => ?_) h1
  obtain ⟨d, rfl, q⟩ := q1
  cases r1
  exact wpAny_truthy_bool ⟨H1, I1, q⟩
theorem pt_val {e : Expr} {t : TE} (h : PE X e t) (he : ∀ whole, isTrue e X.env whole = (do let v ← whole; standAt e.pos; holding [v] (truthy v)) := by intro _; rfl) : PT X e (tB t) := by
  intro pins s σ H Q I hw
  refine isTrue_plain (thn (h pins s σ H _ I hw) fun v s1 ⟨x, H1, I1, r1, q1⟩ => ?_) (he _)
  obtain ⟨d, rfl, q⟩ := q1
  cases r1
  exact wpAny_truthy_bool ⟨H1, I1, q⟩
variable {tA tB' : TT} {rest : List Expr}
def tAnd (t u : TT) : TT := fun σ H Q => t σ H fun c H1 => if c = true then u σ H1 Q else Q false H1
def tOr (t u : TT) : TT := fun σ H Q => t σ H fun c H1 => if c = true then Q true H1 else u σ H1 Q
def tNot (t : TT) : TT := fun σ H Q => t σ H fun c H1 => Q (!c) H1
theorem pw_and1 (ha : PT X a tA) : PW X (.BoolOp .And [a] pos) tA := by
  intro wh pins s σ H Q I h
  refine isTrue_and (thn (ha pins s σ H Q I h) fun c s1 e => ?_)
  cases c with
  | true => exact isTrue_and_nil e
  | false => exact e
theorem pw_or1 (ha : PT X a tA) : PW X (.BoolOp .Or [a] pos) tA := by
  intro wh pins s σ H Q I h
  refine isTrue_or (thn (ha pins s σ H Q I h) fun c s1 e => ?_)
  cases c with
  | false => exact isTrue_or_nil e
  | true => exact e
theorem pw_and (ha : PT X a tA) (hb : PW X (.BoolOp .And (b :: rest) pos) tB') : PW X (.BoolOp .And (a :: b :: rest) pos) (tAnd tA tB') := by
  intro wh pins s σ H Q I h
  refine isTrue_and (thn (ha pins s σ H _ I h) fun c s1 ⟨H1, I1, q1⟩ => ?_)
  cases c with
  | true => exact hb wh pins s1 σ H1 Q I1 q1
  | false => exact ⟨H1, I1, q1⟩
theorem pw_or (ha : PT X a tA) (hb : PW X (.BoolOp .Or (b :: rest) pos) tB') : PW X (.BoolOp .Or (a :: b :: rest) pos) (tOr tA tB') := by
  intro wh pins s σ H Q I h
  refine isTrue_or (thn (ha pins s σ H _ I h) fun c s1 ⟨H1, I1, q1⟩ => ?_)
  cases c with
  | true => exact ⟨H1, I1, q1⟩
  | false => exact hb wh pins s1 σ H1 Q I1 q1
theorem pt_not (ha : PT X a tA) : PT X (.UnaryOp .Not a pos) (tNot tA) := by
  intro pins s σ H Q I h
  exact isTrue_not (ha pins s σ H (fun c H1 => Q (!c) H1) I h)
def tAndV (ta tb : TE) : TE := fun σ H Q => ta σ H fun x H1 => ∃ c, x = .bl c ∧ if c = true then tb σ H1 Q else Q (.bl false) H1
theorem pe_one {op} {t : TE} (h : PE X a t) : PE X (.BoolOp op [a] pos) t := fun pins s σ H Q I hw => BoolOp_one (h pins s σ H Q I hw)
theorem pe_and (ha : PE X a ta) (hb : PE X (.BoolOp .And (b :: rest) pos) tb) : PE X (.BoolOp .And (a :: b :: rest) pos) (tAndV ta tb) := by
  intro pins s σ H Q I h
  refine BoolOp_and (thn (ha pins s σ H _ I h) fun v s1 ⟨x, H1, I1, r1, q1⟩ => ?_)
  obtain ⟨c, rfl, q1⟩ := q1
  cases r1
  refine wpAny_truthy_bool ?_
  cases c with
  | true => exact hb pins s1 σ H1 Q I1 q1
  | false => exact ⟨.bl false, H1, I1, rfl, q1⟩
def tIf (t : TT) (ta tb : TE) : TE := fun σ H Q => t σ H fun c H1 => if c = true then ta σ H1 Q else tb σ H1 Q
theorem pe_ifExp {c : Expr} (hc : PT X c tA) (ha : PE X a ta) (hb : PE X b tb) : PE X (.IfExp c a b pos) (tIf tA ta tb) := by
  intro pins s σ H Q I h
  refine wpAny_IfExp (thn (hc pins s σ H _ I h) fun d s1 ⟨H1, I1, q1⟩ => ?_)
  cases d with
  | true => exact ha pins s1 σ H1 Q I1 q1
  | false => exact hb pins s1 σ H1 Q I1 q1
end
end L2
namespace L2
open PySem PySem.Spec PyProof.Rows
def SqL (K : PySem.W.Frag) (H : Hp) (a : Addr) (xs : List V) : Prop :=
  Rd H a (.lst xs) ∨
    ∃ (o : Obj) (its : Array Value) (n : Nat), K.lookup a = some o ∧ o.cls = .type "list" ∧ o.dict = none ∧ o.data = .seq its n ∧ its.size ≤ sizeLine ∧ Vals xs its.toList
def SqT (K : PySem.W.Frag) (H : Hp) (a : Addr) (xs : List V) : Prop :=
  Rd H a (.tup xs) ∨
    ∃ (o : Obj) (its : Array Value) (n : Nat), K.lookup a = some o ∧ o.cls = .type "tuple" ∧ o.data = .seq its n ∧ its.size ≤ sizeLine ∧ Vals xs its.toList
def absV : Value → Option V
  | .none => some .non
  | .bool b => some (.bl b)
  | .int i _ => some (.int i)
  | .str x _ => some (.str x)
  | .bytes b _ => some (.byt b)
  | .float b _ => some (.flt b)
  | .ref a => some (.ref a)
  | .type n => some (.ty n)
  | _ => none
theorem RelV.abs {x : V} {u : Value} (r : RelV x u) : absV u = some x := by
  cases x with
  | non => cases r; rfl
  | bl _ => cases r; rfl
  | int _ => obtain ⟨t, rfl⟩ := r; rfl
  | str _ => obtain ⟨t, rfl⟩ := r; rfl
  | byt _ => obtain ⟨t, rfl⟩ := r; rfl
  | flt _ => obtain ⟨t, rfl⟩ := r; rfl
  | ref _ => cases r; rfl
  | ty _ => cases r; rfl
theorem RelV.inj {x y : V} {u : Value} (r : RelV x u) (q : RelV y u) : x = y := Option.some.inj (r.abs.symm.trans q.abs)
theorem Vals.inj : ∀ {xs ys : List V} {us : List Value}, Vals xs us → Vals ys us → xs = ys
  | _, _, _, .nil, .nil => rfl
  | _, _, _, .cons r t, .cons r' t' => by rw [r.inj r', Vals.inj t t']
section
variable {X : Cx} {pins : List (Addr × Obj)} {σ : St} {H : Hp} {s : Shared} {a : Addr} {xs ys : List V}
theorem SqL.of {K : PySem.W.Frag} (h : H a = some (.lst xs)) : SqL K H a xs := .inl (.inl h)
theorem SqT.of {K : PySem.W.Frag} (h : H a = some (.tup xs)) : SqT K H a xs := .inl (.inl h)
theorem Inv.list (I : Inv X pins σ H s) (h : SqL X.K H a xs) : ∃ its : List Value, Vals xs its ∧ PlainL s.heap a its.toArray ∧ xs.length ≤ sizeLine := by
  rcases h with h | ⟨o, its, n, hk, hc, hd, hs, hz, r⟩
  · obtain ⟨z, its, n, r, e⟩ := h.ok I.hok
    exact ⟨its, r, ⟨_, n, e, rfl, rfl, rfl⟩, z⟩
  · refine ⟨its.toList, r, ⟨o, n, I.kIn a o hk, hc, hd, by simpa using hs⟩, ?_⟩
    have e := r.length
    simp only [Array.length_toList] at e
    omega
theorem Inv.tuple (I : Inv X pins σ H s) (h : SqT X.K H a xs) : ∃ its : List Value, Vals xs its ∧ IsTup s.heap a its.toArray ∧ xs.length ≤ sizeLine := by
  rcases h with h | ⟨o, its, n, hk, hc, hs, hz, r⟩
  · obtain ⟨z, its, r, p⟩ := h.ok I.hok
    exact ⟨its, r, p, z⟩
  · refine ⟨its.toList, r, ⟨o, I.kIn a o hk, hc, n, by simpa using hs⟩, ?_⟩
    have e := r.length
    simp only [Array.length_toList] at e
    omega
theorem Inv.list_inj (I : Inv X pins σ H s) (h : SqL X.K H a xs) (h' : SqL X.K H a ys) : xs = ys := by
  obtain ⟨its, r, ⟨o, n, e, _, _, d⟩, _⟩ := I.list h
  obtain ⟨its', r', ⟨o', n', e', _, _, d'⟩, _⟩ := I.list h'
  rw [e] at e'; cases e'
  rw [d] at d'
  injection d' with d1 _
  have : its = its' := by simpa using congrArg Array.toList d1
  subst this
  exact r.inj r'
end
abbrev Cx.wish (X : Cx) (E : Value → Shared → Prop) : Cx := { X with xe := E }
abbrev Cx.nox (X : Cx) : Cx := X.wish fun _ _ => False
theorem Cx.Ok.wish {X : Cx} (ok : X.Ok) (E : Value → Shared → Prop) : (X.wish E).Ok :=
  ⟨ok.mod, ok.kind, ok.glob, ok.blt, ok.above, ok.inj, ok.has, ok.cab, ok.hd, ok.frames, ok.stk, ok.exf, ok.bs, ok.bsz, ok.noex, ok.exfs, ok.funs, ok.frf⟩
theorem Cx.Ok.unwish {X : Cx} {E : Value → Shared → Prop} (ok : (X.wish E).Ok) : X.Ok :=
  ⟨ok.mod, ok.kind, ok.glob, ok.blt, ok.above, ok.inj, ok.has, ok.cab, ok.hd, ok.frames, ok.stk, ok.exf, ok.bs, ok.bsz, ok.noex, ok.exfs, ok.funs, ok.frf⟩
section
variable {X : Cx} {pins : List (Addr × Obj)} {σ : St} {H : Hp} {s : Shared} {E : Value → Shared → Prop}
theorem Inv.wish (I : Inv X pins σ H s) (E : Value → Shared → Prop) : Inv (X.wish E) pins σ H s := ⟨I.ok.wish E, I.os, I.bare, I.base, I.loc, I.cell, I.free, I.freeC, I.pin, I.hok, I.len⟩
theorem Inv.unwish (I : Inv (X.wish E) pins σ H s) : Inv X pins σ H s := ⟨I.ok.unwish, I.os, I.bare, I.base, I.loc, I.cell, I.free, I.freeC, I.pin, I.hok, I.len⟩
theorem SP.unwish {D : Ends} {f : Flow} {s' : Shared} (h : SP (X.wish E) pins D f s') : SP X pins D f s' := by
  cases f with
  | next => obtain ⟨σ', H', I, q⟩ := h; exact ⟨σ', H', I.unwish, q⟩
  | brk => obtain ⟨σ', H', I, q⟩ := h; exact ⟨σ', H', I.unwish, q⟩
  | cont => obtain ⟨σ', H', I, q⟩ := h; exact ⟨σ', H', I.unwish, q⟩
  | ret u => obtain ⟨v, σ', H', I, r, q⟩ := h; exact ⟨v, σ', H', I.unwish, r, q⟩
theorem PSs.nox {st : List Stmt} {t : TS} (h : PSs X.nox st t) : PSs X st t := fun pins s σ H D I hw =>
  wpAny_mono (h pins s σ H D (I.wish _) hw) (fun _ _ q => q.unwish) fun _ _ z => False.elim z
end
section
variable {X : Cx} {st : Stmt} {rest : List Stmt} {t u : TS} {e : Expr} {te : TE} {pos : Pos}
def tNext : TS := fun D σ H => D.nx σ H
def tSeq (t u : TS) : TS := fun D σ H => t { D with nx := u D } σ H
theorem pss_nil : PSs X [] tNext := fun _ _ σ H _ I h => wpAny_execs_nil ⟨σ, H, I, h⟩
theorem pss_cons (h1 : PS X st t) (h2 : PSs X rest u) : PSs X (st :: rest) (tSeq t u) := by
  intro pins s σ H D I h
  refine wpAny_execs_cons (thn (h1 pins s σ H { D with nx := u D } I h) fun f s1 q => ?_)
  cases f with
  | next =>
    obtain ⟨σ', H', I', q⟩ := q
    exact h2 pins s1 σ' H' D I' q
  | ret v => exact q
  | brk => exact q
  | cont => exact q
theorem pss_one (h1 : PS X st t) : PSs X [st] t := by
  intro pins s σ H D I h
  refine wpAny_execs_cons (thn (h1 pins s σ H D I h) fun f s1 q => ?_)
  cases f with
  | next => exact wpAny_execs_nil q
  | ret v => exact q
  | brk => exact q
  | cont => exact q
theorem Inv.quiet {pins : List (Addr × Obj)} {σ : St} {H : Hp} {s : Shared} (I : Inv X pins σ H s) : interactive X.env = false := by simp [interactive, I.ok.kind]
def tDrop (te : TE) : TS := fun D σ H => te σ H fun _ H1 => D.nx σ H1
theorem ps_expr (he : PE X e te) (hs : swapsWith e none pos.line X.env = pure false := by rfl) : PS X (.Expr e pos) (tDrop te) := by
  intro pins s σ H D I h
  exact wpAny_Expr_any (thn (he pins s σ H _ I h) fun v s1 ⟨x, H1, I1, r1, q1⟩ => ⟨σ, H1, I1, q1⟩) I.quiet hs
def tRet (te : TE) : TS := fun D σ H => te σ H D.rt
theorem ps_ret (he : PE X e te) : PS X (.Return (some e) pos) (tRet te) := by
  intro pins s σ H D I h
  exact wpAny_Return_some (thn (he pins s σ H _ I h) fun v s1 ⟨x, H1, I1, r1, q1⟩ => ⟨x, σ, H1, I1, r1, q1⟩)
def tIfS (c : TT) (t u : TS) : TS := fun D σ H => c σ H fun b H1 => if b = true then t D σ H1 else u D σ H1
theorem ps_if {c : Expr} {a b : List Stmt} {tc : TT} (hc : PT X c tc) (ha : PSs X a t) (hb : PSs X b u) : PS X (.If c a b pos) (tIfS tc t u) := by
  intro pins s σ H D I h
  refine wpAny_If (thn (hc pins s σ H _ I h) fun d s1 ⟨H1, I1, q1⟩ => ?_)
  cases d with
  | true => exact ha pins s1 σ H1 D I1 q1
  | false => exact hb pins s1 σ H1 D I1 q1
end
abbrev TG := V → St → Hp → (St → Hp → Prop) → Prop
abbrev TGs := List V → St → Hp → (St → Hp → Prop) → Prop
def PG (X : Cx) (target : Expr) (t : TG) : Prop :=
  ∀ (pins : List (Addr × Obj)) (s : Shared) (σ : St) (H : Hp) (v : V) (u : Value) (Q : St → Hp → Prop), Inv X pins σ H s → RelV v u → t v σ H Q →
    wpAny (model X.prog X.w) X.A (assign target X.env u) (fun _ s' => ∃ σ' H', Inv X pins σ' H' s' ∧ Q σ' H') X.xe s
def PGs (X : Cx) (ts : List Expr) (t : TGs) : Prop :=
  ∀ (pins : List (Addr × Obj)) (s : Shared) (σ : St) (H : Hp) (vs : List V) (us : List Value) (Q : St → Hp → Prop), Inv X pins σ H s → Vals vs us → t vs σ H Q →
    wpAny (model X.prog X.w) X.A (assignInOrder ((assignEach ts X.env).map (·.2)) us) (fun _ s' => ∃ σ' H', Inv X pins σ' H' s' ∧ Q σ' H') X.xe s
abbrev TIp := V → V → Hp → VK → Prop
def PIp (X : Cx) (op : Operator) (t : TIp) : Prop :=
  ∀ (pins : List (Addr × Obj)) (s : Shared) (σ : St) (H : Hp) (x y : V) (v u : Value) (Q : VK), Inv X pins σ H s → RelV x v → RelV y u → t x y H Q →
    wpAny (model X.prog X.w) X.A (inplaceOp op v u) (EP X pins σ Q) X.xe s
section
variable {X : Cx} {pos : Pos}
def gName (i : Nat) : TG := fun v σ H Q => Q (σ.set i (some v)) H
theorem pg_name {i : Nat} {x : Str} (hN : X.N.Nodup) (hi : X.N[i]? = some x) (hx : Loc X.env.scope x) (hf : X.fn x = true ∨ X.env.scope.names.lookup x = some .local := by first | exact .inl rfl | exact .inr rfl | assumption) : PG X (.Name x pos) (gName i) := by
  intro pins s σ H v u Q I r h
  exact wpAny_assign_Name (store_ok I hN hi hx r (fun s' I' => ⟨_, H, I', h⟩) hf)
def gNil : TGs := fun vs σ H Q => vs = [] ∧ Q σ H
def gCons (t : TG) (u : TGs) : TGs := fun vs σ H Q => ∃ v r, vs = v :: r ∧ t v σ H fun σ' H' => u r σ' H' Q
theorem pgs_nil : PGs X [] gNil := by
  intro pins s σ H vs us Q I r h
  obtain ⟨e, h⟩ := h
  subst e
  cases r
  exact assignInOrder_nil ⟨σ, H, I, h⟩
theorem pgs_cons {e : Expr} {es : List Expr} {t : TG} {u : TGs} (h1 : PG X e t) (h2 : PGs X es u)
    (hs : (assignEach (e :: es) X.env).map (·.2) = assign e X.env :: (assignEach es X.env).map (·.2) := by rfl) : PGs X (e :: es) (gCons t u) := by
  intro pins s σ H vs us Q I r h
  obtain ⟨v, vr, e1, h⟩ := h
  subst e1
  cases r with
  | cons r rr =>
    rw [hs]
    refine assignInOrder_cons (thn (h1 pins s σ H _ _ _ I r h) fun _ s1 ⟨σ1, H1, I1, q1⟩ => ?_)
    exact h2 pins s1 σ1 H1 _ _ Q I1 rr q1
def gTup (K : PySem.W.Frag) (n : Nat) (t : TGs) : TG := fun v σ H Q => ∃ a xs, v = .ref a ∧ SqT K H a xs ∧ xs.length = n ∧ t xs σ H Q
theorem pg_tup {es : List Expr} {k : Nat} {t : TGs} {n : Nat} (hc : X.calm = true) (h : PGs X es t)
    (hn : (assignEach es X.env).length = n := by rfl) (hst : (assignEach es X.env).findIdx? (·.1) = none := by rfl) : PG X (.Tuple es k pos) (gTup X.K n t) := by
  intro pins s σ H v u Q I r hw
  obtain ⟨a, xs, e1, hq, hl, hw⟩ := hw
  subst e1
  cases r
  obtain ⟨its, rv, ht, hz⟩ := I.tuple hq
  refine assign_Tuple_tuple (I.ok.hd hc) ht (by simp [hn, ← hl, rv.length]) hst fun h' hx => ?_
  have I1 : Inv X pins σ H { s with heap := h' } := I.kept (t' := s.toks) fun b o e => hx b o (Nat.ne_of_lt (Heap.lt_size e)) e
  exact h pins _ σ H xs _ Q I1 (by simpa using rv) hw
def tAsg (te : TE) (g : TG) : TS := fun D σ H => te σ H fun x H1 => g x σ H1 D.nx
theorem ps_set {i : Nat} {x : Str} {e : Expr} {te : TE} {pos' : Pos} (hN : X.N.Nodup) (hi : X.N[i]? = some x) (hx : Loc X.env.scope x) (he : PE X e te) (hs : swapsWith e (some (.Name x pos')) pos.line X.env = pure false := by rfl) (hf : X.fn x = true ∨ X.env.scope.names.lookup x = some .local := by first | exact .inl rfl | exact .inr rfl | assumption) :
    PS X (.Assign [.Name x pos'] e pos) (tAsg te (gName i)) := by
  intro pins s σ H D I h
  refine wpAny_Assign_Name (thn (he pins s σ H _ I h) fun v s1 ⟨y, H1, I1, r1, q1⟩ => ?_) hs
  exact store_ok I1 hN hi hx r1 (fun s2 I2 => ⟨_, H1, I2, q1⟩) hf
def tAug (i : Nat) (te : TE) (ti : TIp) : TS := fun D σ H => ∃ x, σ[i]? = some (some x) ∧ te σ H fun y H1 => ti x y H1 fun z H2 => D.nx (σ.set i (some z)) H2
theorem ps_aug {i : Nat} {x : Str} {e : Expr} {te : TE} {op : Operator} {ti : TIp} {pos' : Pos} (hN : X.N.Nodup) (hi : X.N[i]? = some x) (hx : Loc X.env.scope x) (he : PE X e te) (ho : PIp X op ti) (hf : X.fn x = true ∨ X.env.scope.names.lookup x = some .local := by first | exact .inl rfl | exact .inr rfl | assumption) :
    PS X (.AugAssign (.Name x pos') op e pos) (tAug i te ti) := by
  intro pins s σ H D I h
  obtain ⟨v, e1, h⟩ := h
  obtain ⟨m, hn, hl⟩ := I.loc
  have vis : Vis X.env.scope x := by rcases hx with k | k; exact .inl k; exact .inr (.inl k)
  obtain ⟨u, r, l⟩ := hl i x v hi e1 vis
  refine wpAny_AugAssign_Name ?_
  have go : wpAny (model X.prog X.w) X.A (eval e X.env) (fun w s₂ => wpAny (model X.prog X.w) X.A (inplaceOp op u w) (fun r s₃ => wpAny (model X.prog X.w) X.A (storeName X.env x r) (fun _ => SP X pins D .next) X.xe s₃) X.xe s₂) X.xe s := by
    refine thn (he pins s σ H _ I h) fun w s1 ⟨y, H1, I1, r1, q1⟩ => ?_
    refine thn (ho pins s1 σ H1 v y u w _ I1 r r1 q1) fun z s2 ⟨zv, H2, I2, r2, q2⟩ => ?_
    exact store_ok I2 hN hi hx r2 (fun s3 I3 => ⟨_, H2, I3, q2⟩) hf
  rcases l with ⟨hk, hm⟩ | ⟨hk, c, hc, hcell⟩
  · exact wpAny_loadName_local I.ok.kind hk hn hm go
  · rcases hk with hk | hk
    · exact wpAny_loadName_cell I.ok.kind hk hc hcell go
    · rcases hx with k | k
      · have : X.env.scope.names.lookup x = some .free := hk
        rw [k] at this; cases this
      · have : X.env.scope.names.lookup x = some .free := hk
        rw [k] at this; cases this
def ipI (f : Int → Int → Int) : TIp := fun x y H Q => ∃ i j, x = .int i ∧ y = .int j ∧ Q (.int (f i j)) H
theorem ip_add : PIp X .Add (ipI fun i j => i + j) := by
  intro pins s σ H x y v u Q I r1 r2 h
  obtain ⟨i, j, e1, e2, q⟩ := h
  subst e1; subst e2
  obtain ⟨t, rfl⟩ := r1
  obtain ⟨t', rfl⟩ := r2
  exact iadd_int ⟨.int _, H, I.tok _, ⟨_, rfl⟩, q⟩
end
section
variable {X : Cx} {pos : Pos}
def tWhile (c : TT) (tb : TS) : TS := fun D σ H => ∃ W : Nat → St → Hp → Prop, (∃ m, W m σ H) ∧ ∀ m σ H, W m σ H →
  c σ H fun b H1 => if b = true then ∃ N : St → Hp → Prop, (∀ σ' H', N σ' H' → ∃ m', m' < m ∧ W m' σ' H') ∧ tb { D with nx := N, ct := N, bk := D.nx } σ H1 else D.nx σ H1
theorem ps_while {c : Expr} {body : List Stmt} {tc : TT} {tb : TS} (hp : PassesOwn (model X.prog X.w) X.A X.env X.xe) (hc : PT X c tc) (hb : PSs X body tb) : PS X (.While c body [] pos) (tWhile tc tb) := by
  intro pins s σ H D I h
  obtain ⟨W, ⟨m0, w0⟩, turn⟩ := h
  refine wpAny_While (codeAny_whileLoop (fun n s' => ∃ σ' H', Inv X pins σ' H' s' ∧ W n σ' H') ?_ m0 ⟨σ, H, I, w0⟩)
  rintro n s1 ⟨σ1, H1, I1, w1⟩
  refine wpAny_passesOwn hp (thn (hc pins s1 σ1 H1 _ I1 (turn n σ1 H1 w1)) fun b s2 ⟨H2, I2, q2⟩ => ?_)
  cases b with
  | true =>
    obtain ⟨N, hN, q2⟩ := q2
    rw [if_pos rfl]
    refine wpAny_passesOwn hp (thn (hb pins s2 σ1 H2 _ I2 q2) fun f s3 q3 => ?_)
    cases f with
    | next =>
      obtain ⟨σ3, H3, I3, n3⟩ := q3
      obtain ⟨m', hm, w3⟩ := hN σ3 H3 n3
      exact ⟨m', hm, σ3, H3, I3, w3⟩
    | cont =>
      obtain ⟨σ3, H3, I3, n3⟩ := q3
      obtain ⟨m', hm, w3⟩ := hN σ3 H3 n3
      exact ⟨m', hm, σ3, H3, I3, w3⟩
    | brk => exact q3
    | ret v => exact q3
  | false =>
    rw [if_neg Bool.false_ne_true]
    exact wpAny_execs_nil ⟨σ1, H2, I2, q2⟩
end
structure It where
  go : Nat → Hp → Prop
  yld : Nat → Hp → V → Hp → Prop
  stop : Nat → Hp → Prop
def FpOk (X : Cx) (pins : List (Addr × Obj)) (H : Hp) (b : Addr) : Prop :=
  H b = none ∧ b ≠ X.env.locals ∧ b ∉ X.fs ∧ (b ∈ X.ex ∨ X.s_0.heap.objs.size ≤ b) ∧ (∀ x c, X.env.cells.lookup x = some c → c ≠ b) ∧ ∀ p ∈ X.pn ++ pins, p.1 ≠ b
theorem Inv.fpOk {X : Cx} {pins : List (Addr × Obj)} {σ : St} {H H' : Hp} {s : Shared} {b : Addr} (I : Inv X pins σ H s) (hb : s.heap.objs.size ≤ b) (hn : H' b = none) : FpOk X pins H' b := by
  refine ⟨hn, Nat.ne_of_gt (Nat.lt_of_lt_of_le I.lt hb), I.nofs hb, .inr (Nat.le_trans I.sz hb), fun x c e z => ?_, fun p hp z => ?_⟩
  · obtain ⟨v, q⟩ := I.cell x c e
    exact absurd (Nat.lt_of_lt_of_le q.lt (by rw [z]; exact hb)) (Nat.lt_irrefl _)
  · exact absurd (Nat.lt_of_lt_of_le (Heap.lt_size (I.pin p hp).1) (by rw [z]; exact hb)) (Nat.lt_irrefl _)
structure Turn (P : Program) (w : World) (K : PySem.W.Frag) (tg : Expr) (J : It) (fp : List Addr) (it : Addr) (tn : Nat → Heap → Prop) : Prop where
  mem : it ∈ fp
  obj : ∀ i h, tn i h → ∀ b ∈ fp, ∃ o, h.get? b = some o ∧ ∀ v, o.data ≠ .cell v
  keep : ∀ i h h', tn i h → (∀ b ∈ fp, ∀ o, h.get? b = some o → h'.get? b = some o) → tn i h'
  item : ∀ (X : Cx), X.prog = P → X.w = w → X.K = K → X.calm = true → ∀ (i : Nat) (pins : List (Addr × Obj)) (s : Shared) (σ : St) (H : Hp) (E : Value → Shared → Prop), Inv X pins σ H s → (∀ b ∈ fp, FpOk X pins H b) → tn i s.heap → J.go i H →
    wpAny (model P w) X.A (pyNext (.ref it)) (fun r s1 => ∃ u, r = some u ∧
      wpAny (model P w) X.A (letOwnedTupleGo tg (.ref it) u) (fun _ s2 => ∃ x H', Inv X pins σ H' s2 ∧ RelV x u ∧ J.yld i H x H' ∧ tn (i + 1) s2.heap ∧ ∀ b ∈ fp, H' b = none) E s1) E s
  done : ∀ (X : Cx), X.prog = P → X.w = w → X.K = K → X.calm = true → ∀ (i : Nat) (pins : List (Addr × Obj)) (s : Shared) (σ : St) (H : Hp) (E : Value → Shared → Prop), Inv X pins σ H s → (∀ b ∈ fp, FpOk X pins H b) → tn i s.heap → J.stop i H →
    wpAny (model P w) X.A (pyNext (.ref it)) (fun r s1 => r = none ∧ Inv X pins σ H s1) E s
  self : ∀ (A : Around) (i : Nat) (s : Shared) (Q : Value → Shared → Prop) (E : Value → Shared → Prop), tn i s.heap → Q (.ref it) s → wpAny (model P w) A (pyIter (.ref it)) Q E s
abbrev TI := St → Hp → (It → Hp → Prop) → Prop
def PIE (X : Cx) (pins : List (Addr × Obj)) (σ : St) (tg : Expr) (R : It → Hp → Prop) (itv : Value) (s2 : Shared) : Prop :=
  ∃ (it : Addr) (fp : List Addr) (tn : Nat → Heap → Prop) (J : It) (H' : Hp), itv = .ref it ∧ Inv X pins σ H' s2 ∧ Turn X.prog X.w X.K tg J fp it tn ∧ tn 0 s2.heap ∧ (∀ b ∈ fp, FpOk X pins H' b) ∧ R J H'
def PI (X : Cx) (tg iter : Expr) (wi : TI) : Prop :=
  ∀ (pins : List (Addr × Obj)) (s : Shared) (σ : St) (H : Hp) (R : It → Hp → Prop), Inv X pins σ H s → wi σ H R →
    wpAny (model X.prog X.w) X.A (eval iter X.env) (fun v s1 => wpAny (model X.prog X.w) X.A (pyIter v) (PIE X pins σ tg R) X.xe s1) X.xe s
theorem go_of {M : Model} {A : Around} {E : Value → Shared → Prop} {s : Shared} {tg : Expr} {it : Addr} {u : Value} {o : Obj} {n : String} {vs : Array Value} {Q : Unit → Shared → Prop} (ho : s.heap.get? it = some o) (hc : o.cls = .type n) (hd : o.data = .fields vs)
    (hn : ["enumerate", "zip", "dict_itemiterator", "dict_reverseitemiterator", "odict_iterator", "itertools.zip_longest", "itertools.pairwise"].contains n = false) (hQ : Q () s) : wpAny M A (letOwnedTupleGo tg (.ref it) u) Q E s := by
  unfold letOwnedTupleGo
  cases tg <;> first
    | exact wpAny_pure hQ
    | (cases u <;> first
        | exact wpAny_pure hQ
        | (refine wpAny_bind (wpAny_load ho ?_)
           rw [hc, hd]
           show wpAny M A (if (["enumerate", "zip", "dict_itemiterator", "dict_reverseitemiterator", "odict_iterator", "itertools.zip_longest", "itertools.pairwise"].contains n && vs[0]? == some (rawInt _)) = true then _ else _) Q E s
           rw [if_neg (by intro h; rw [hn, Bool.false_and] at h; cases h)]
           exact wpAny_pure hQ))
def Itl (K : PySem.W.Frag) (a : Addr) : It :=
  ⟨fun i H => ∃ xs x, SqL K H a xs ∧ xs[i]? = some x, fun i H x H' => H' = H ∧ ∀ xs, SqL K H a xs → xs[i]? = some x, fun i H => ∃ xs, SqL K H a xs ∧ xs.length ≤ i⟩
def Itr (lo : Int) (n : Nat) : It := ⟨fun i _ => i < n, fun i H x H' => H' = H ∧ x = .int (lo + i), fun i _ => n ≤ i⟩
theorem turn_list {P : Program} {w : World} {K : PySem.W.Frag} {tg : Expr} (a it : Addr) : Turn P w K tg (Itl K a) [it] it (fun i h => h.IsListIter it a i) where
  mem := by simp
  obj := fun i h st b hb => by
    have e : b = it := by simpa using hb
    subst e
    obtain ⟨o, e, c, d⟩ := st
    exact ⟨o, e, fun v z => by rw [d] at z; cases z⟩
  keep := fun i h h' st k => st.at fun o e => k it (by simp) o e
  item := by
    intro X hP hw hK hc i pins s σ H E I hf st hg
    subst hP hw hK
    obtain ⟨xs, x, hq, hx⟩ := hg
    obtain ⟨its, rv, p, hz⟩ := I.list hq
    obtain ⟨u, hu, ru⟩ := rv.get hx
    obtain ⟨f0, f1, f2, f3, f4, f5⟩ := hf it (by simp)
    refine wpAny_pyNext_list_item st p.isList (x := u) (by simpa using hu) fun h' st' sb => ?_
    have I1 : Inv X pins σ H { s with heap := h' } := I.turned (t' := s.toks) (fun b o hb e => (sb.2 b hb).trans e) f0 f1 f3 f4 f5
    obtain ⟨o, e, c, d⟩ := id st'
    exact ⟨u, rfl, go_of (s := { s with heap := h' }) e c d (by decide) ⟨x, H, I1, ru, ⟨rfl, fun ys hy => by rw [I.list_inj hy hq]; exact hx⟩, st', fun b hb => (hf b hb).1⟩⟩
  done := by
    intro X hP hw hK hc i pins s σ H E I hf st hg
    subst hP hw hK
    obtain ⟨xs, hq, hx⟩ := hg
    obtain ⟨its, rv, p, hz⟩ := I.list hq
    obtain ⟨f0, f1, f2, f3, f4, f5⟩ := hf it (by simp)
    have hl := rv.length
    exact wpAny_pyNext_list_end (I.ok.hd hc) st p.isList (by simp; omega) fun h' eb => ⟨rfl, I.turned (t' := s.toks) (fun b o hb e => eb b o hb e) f0 f1 f3 f4 f5⟩
  self := fun _ _ _ _ _ st h => wpAny_pyIter_listiter st h
theorem turn_range {P : Program} {w : World} {K : PySem.W.Frag} {tg : Expr} (it : Addr) (lo : Int) (n : Nat) : Turn P w K tg (Itr lo n) [it] it (fun i h => IsRangeIter h it (lo + (i : Nat) * 1) ((n : Int) - (i : Nat)) 1) where
  mem := by simp
  obj := fun i h st b hb => by
    have e : b = it := by simpa using hb
    subst e
    exact ⟨_, st, fun v z => by
      have z' : Data.fields _ = Data.cell v := z
      cases z'⟩
  keep := fun i h h' st k => k it (by simp) _ st
  item := by
    intro X hP hw hK hc i pins s σ H E I hf st hg
    subst hP hw hK
    obtain ⟨f0, f1, f2, f3, f4, f5⟩ := hf it (by simp)
    have W := Walks.range (prog := X.prog) (w := X.w) (I.ok.hd hc) it lo 1 n
    refine W.item i s _ _ hg st fun v h' tk hv st' kk => ?_
    obtain ⟨t, rfl⟩ := hv
    have I1 : Inv X pins σ H { s with heap := h', toks := tk } := I.turned (fun b o hb e => kk b o (by simpa using hb) e) f0 f1 f3 f4 f5
    refine ⟨_, rfl, go_of (s := { s with heap := h', toks := tk }) (n := "range_iterator") st' rfl rfl (by decide) ⟨.int (lo + i), H, I1, ⟨t, ?_⟩, ⟨rfl, rfl⟩, st', fun b hb => (hf b hb).1⟩⟩
    rw [Int.mul_one]
  done := by
    intro X hP hw hK hc i pins s σ H E I hf st hg
    subst hP hw hK
    obtain ⟨f0, f1, f2, f3, f4, f5⟩ := hf it (by simp)
    exact wpAny_pyNext_range_end (I.ok.hd hc) st (by have : n ≤ i := hg; omega) fun h' eb => ⟨rfl, I.turned (t' := s.toks) (fun b o hb e => eb b o hb e) f0 f1 f3 f4 f5⟩
  self := fun _ _ _ _ _ st h => wpAny_pyIter_rangeiter st h
end L2
namespace L2
open PySem PySem.Spec PyProof.Rows
section
variable {X : Cx} {tg : Expr}
def iList (K : PySem.W.Frag) (tl : TE) : TI := fun σ H R => tl σ H fun x H1 => ∃ a, x = .ref a ∧ (∃ xs, SqL K H1 a xs) ∧ R (Itl K a) H1
theorem pi_list {l : Expr} {tl : TE} (hl : PE X l tl) : PI X tg l (iList X.K tl) := by
  intro pins s σ H R I h
  refine thn (hl pins s σ H _ I h) fun v s1 ⟨x, H1, I1, r1, q1⟩ => ?_
  obtain ⟨a, e, ⟨xs, hq⟩, q⟩ := q1
  subst e
  cases r1
  obtain ⟨its, rv, p, hz⟩ := I1.list hq
  refine wpAny_pyIter_list p.isList ?_
  refine ⟨s1.heap.objs.size, [s1.heap.objs.size], _, _, H1, rfl, I1.kept (t' := s1.toks) fun b o e => Heap.get?_push_of_some _ e, turn_list a _, ⟨_, Heap.get?_push_size _ rfl, rfl, rfl⟩, fun b hb => ?_, q⟩
  have e : b = s1.heap.objs.size := by simpa using hb
  subst e
  exact I1.fpOk (Nat.le_refl _) (I1.hok.fresh (Nat.le_refl _))
theorem range_it {pins : List (Addr × Obj)} {σ : St} {H : Hp} {s : Shared} {R : It → Hp → Prop} {E : Value → Shared → Prop} {lo hi : Int} {t u v : Tok} {tk : Nat} (I : Inv X pins σ H s) (h1 : -(2 ^ 62) ≤ lo) (h2 : lo < 2 ^ 62) (h3 : -(2 ^ 62) ≤ hi) (h4 : hi < 2 ^ 62)
    (q : R (Itr lo (hi - lo).toNat) H) : wpAny (model X.prog X.w) X.A (pyIter (.ref s.heap.objs.size)) (PIE X pins σ tg R) E { s with heap := s.heap.push { cls := .type "range", data := .fields #[.int lo t, .int hi u, .int 1 v] }, toks := tk } := by
  refine wpAny_pyIter_range (IsRange.new ..) (small_one h1 h2 h3 h4) ?_
  have I1 : Inv X pins σ H { s with heap := s.heap.push { cls := .type "range", data := .fields #[.int lo t, .int hi u, .int 1 v] }, toks := tk } := I.kept fun b o e => Heap.get?_push_of_some _ e
  refine ⟨(s.heap.push { cls := .type "range", data := .fields #[.int lo t, .int hi u, .int 1 v] }).objs.size, [(s.heap.push { cls := .type "range", data := .fields #[.int lo t, .int hi u, .int 1 v] }).objs.size], _, _, H, rfl,
    I1.kept (t' := tk) fun b o e => Heap.get?_push_of_some _ e, turn_range _ lo (hi - lo).toNat, ?_, fun b hb => ?_, q⟩
  · have e1 : lo + ((0 : Nat) : Int) * 1 = lo := by simp
    have e2 : (((hi - lo).toNat : Nat) : Int) - ((0 : Nat) : Int) = Builtin.Range.rangeSize lo hi 1 := by rw [rangeSize_one]; split <;> omega
    show IsRangeIter _ _ (lo + ((0 : Nat) : Int) * 1) ((((hi - lo).toNat : Nat) : Int) - ((0 : Nat) : Int)) 1
    rw [e1, e2]
    exact Heap.get?_push_size _ rfl
  · have e : b = (s.heap.push { cls := .type "range", data := .fields #[.int lo t, .int hi u, .int 1 v] }).objs.size := by simpa using hb
    subst e
    exact I1.fpOk (Nat.le_refl _) (I1.hok.fresh (Nat.le_refl _))
def iRng1 (ta : TA) : TI := fun σ H R => ta σ H fun vs H1 => ∃ j : Int, vs = [.int j] ∧ -(2 ^ 62) ≤ j ∧ j < 2 ^ 62 ∧ R (Itr 0 j.toNat) H1
theorem pi_range1 {a : Expr} {ta : TA} {p pos : Pos} (hg : Gl X "range") (hm : X.mg "range" = none) (ha : PA X [a] ta) (hs : starEach [a] X.env = [(false, eval a X.env)] := by rfl) : PI X tg (.Call (.Name "range" p) [a] [] pos) (iRng1 ta) := by
  intro pins s σ H R I h
  refine Call_ (ld_blt I hg hm boot_range (PyProof.Rows.callWith_type1 (thn (ha pos pins s σ H _ I h) fun us s1 ⟨vs, H1, I1, r1, q1⟩ => ?_) hs rfl))
  obtain ⟨j, e, q1, q2, q⟩ := q1
  subst e
  cases r1 with
  | cons r rr =>
    cases rr
    obtain ⟨t, rfl⟩ := r
    exact call_range_1 (range_it I1 (by omega) (by omega) q1 q2 (by simpa using q))
def tFor (wi : TI) (g : TG) (tb : TS) : TS := fun D σ H => wi σ H fun J H1 => ∃ W : Nat → Nat → St → Hp → Prop, (∃ m, W 0 m σ H1) ∧ ∀ i m σ H, W i m σ H →
  (J.stop i H ∧ D.nx σ H) ∨ (J.go i H ∧ ∃ N : St → Hp → Prop, (∀ σ' H', N σ' H' → ∃ m', m' < m ∧ W (i + 1) m' σ' H') ∧ ∀ x H', J.yld i H x H' → g x σ H' fun σ2 H2 => tb { D with nx := N, ct := N, bk := D.nx } σ2 H2)
def pinsAt (fp : List Addr) (h : Heap) : List (Addr × Obj) := fp.filterMap fun b => (h.get? b).map fun o => (b, o)
theorem mem_pinsAt {fp : List Addr} {h : Heap} {b : Addr} {o : Obj} (hb : b ∈ fp) (e : h.get? b = some o) : (b, o) ∈ pinsAt fp h := List.mem_filterMap.mpr ⟨b, hb, by rw [e]; rfl⟩
theorem of_pinsAt {fp : List Addr} {h : Heap} {p : Addr × Obj} (hp : p ∈ pinsAt fp h) : p.1 ∈ fp ∧ h.get? p.1 = some p.2 := by
  obtain ⟨b, hb, e⟩ := List.mem_filterMap.mp hp
  cases q : h.get? b with
  | none => rw [q] at e; cases e
  | some o =>
    rw [q] at e
    have e' : (b, o) = p := Option.some.inj e
    subst e'
    exact ⟨hb, q⟩
theorem Inv.pinned {pins : List (Addr × Obj)} {σ : St} {H : Hp} {s : Shared} {fp : List Addr} (I : Inv X pins σ H s) (hf : ∀ b ∈ fp, FpOk X pins H b) (ho : ∀ b ∈ fp, ∃ o, s.heap.get? b = some o ∧ ∀ v, o.data ≠ .cell v) : Inv X (pins ++ pinsAt fp s.heap) σ H s :=
  I.pins_of fun p hp => (List.mem_append.mp hp).elim (fun z => I.pin p (List.mem_append_right _ z)) fun z => by
    obtain ⟨hb, e⟩ := of_pinsAt z
    obtain ⟨f0, f1, f2, _⟩ := hf p.1 hb
    obtain ⟨o, e', d⟩ := ho p.1 hb
    rw [e] at e'; cases e'
    exact ⟨e, f0, f1, f2, d⟩
theorem Inv.unpinned {pins pl : List (Addr × Obj)} {σ : St} {H : Hp} {s : Shared} (I : Inv X (pins ++ pl) σ H s) : Inv X pins σ H s := I.pins_of fun p hp => I.pin p (List.mem_append_right _ (List.mem_append_left _ hp))
theorem ps_for {iter : Expr} {body : List Stmt} {wi : TI} {g : TG} {tb : TS} {pos : Pos} (hp : PassesOwn (model X.prog X.w) X.A X.env X.xe) (hc : X.calm = true) (hi : PI X tg iter wi) (hg : PG X tg g) (hb : PSs X body tb)
    (hs : ∀ x, foldedSetIterable iter X.env x = pure x := by intro _; rfl) : PS X (.For tg iter body [] pos) (tFor wi g tb) := by
  intro pins s σ H D I h
  refine wpAny_For (thn (hi pins s σ H _ I h) fun v s1 h1 => thn h1 fun itv s2 h2 => ?_) hs
  obtain ⟨it, fp, tn, J, H2, e, I2, T, st2, f2, W, ⟨m0, w0⟩, turn⟩ := h2
  subst e
  have stat : ∀ {H' : Hp}, (∀ b ∈ fp, H' b = none) → ∀ b ∈ fp, FpOk X pins H' b := fun hn b hb => ⟨hn b hb, (f2 b hb).2⟩
  refine codeAny_forLoop_any (fun n s' => ∃ i σ' H', Inv X pins σ' H' s' ∧ tn i s'.heap ∧ (∀ b ∈ fp, H' b = none) ∧ W i n σ' H') ?_ m0 ⟨0, σ, H2, I2, st2, fun b hb => (f2 b hb).1, w0⟩
  rintro n s3 ⟨i, σ3, H3, I3, st3, fr3, w3⟩
  rcases turn i n σ3 H3 w3 with ⟨stop, qn⟩ | ⟨go, N, hN, step⟩
  · refine wpAny_passesOwn hp (thn (T.done X rfl rfl rfl hc i pins s3 σ3 H3 X.xe I3 (stat fr3) st3 stop) fun r s4 ⟨hr, I4⟩ => ?_)
    subst hr
    exact wpAny_execs_nil ⟨σ3, H3, I4, qn⟩
  · refine wpAny_passesOwn hp (thn (T.item X rfl rfl rfl hc i pins s3 σ3 H3 X.xe I3 (stat fr3) st3 go) fun r s4 ⟨u, hr, h4⟩ => ?_)
    subst hr
    refine wpAny_passesOwn hp (thn h4 fun _ s5 ⟨x, H5, I5, r5, y5, st5, fr5⟩ => ?_)
    have I5' := I5.pinned (stat fr5) (T.obj _ _ st5)
    refine wpAny_passesOwn hp (thn (hg _ s5 σ3 H5 x u _ I5' r5 (step x H5 y5)) fun _ s6 ⟨σ6, H6, I6, q6⟩ => ?_)
    refine wpAny_passesOwn hp (thn (hb _ s6 σ6 H6 _ I6 q6) fun f s7 q7 => ?_)
    have again : ∀ {σ7 : St} {H7 : Hp}, Inv X (pins ++ pinsAt fp s5.heap) σ7 H7 s7 → N σ7 H7 → ∃ m, m < n ∧ ∃ i σ' H', Inv X pins σ' H' s7 ∧ tn i s7.heap ∧ (∀ b ∈ fp, H' b = none) ∧ W i m σ' H' := fun {σ7 H7} I7 n7 => by
      obtain ⟨m', hm, w7⟩ := hN σ7 H7 n7
      refine ⟨m', hm, i + 1, σ7, H7, I7.unpinned, T.keep _ _ _ st5 fun b hb o e => (I7.pin (b, o) (List.mem_append_right _ (List.mem_append_right _ (mem_pinsAt hb e)))).1, fun b hb => ?_, w7⟩
      obtain ⟨o, e, d⟩ := T.obj _ _ st5 b hb
      exact (I7.pin (b, o) (List.mem_append_right _ (List.mem_append_right _ (mem_pinsAt hb e)))).2.1
    cases f with
    | next => obtain ⟨σ7, H7, I7, n7⟩ := q7; exact again I7 n7
    | cont => obtain ⟨σ7, H7, I7, n7⟩ := q7; exact again I7 n7
    | brk => obtain ⟨σ7, H7, I7, q7⟩ := q7; exact ⟨σ7, H7, I7.unpinned, q7⟩
    | ret v => obtain ⟨x7, σ7, H7, I7, r7, q7⟩ := q7; exact ⟨x7, σ7, H7, I7.unpinned, r7, q7⟩
end
theorem for_list {K : PySem.W.Frag} {a : Addr} {xs : List V} {g : TG} {tb : TS} {D : Ends} {σ : St} {H : Hp} (Pv : Nat → St → Hp → Prop) (h0 : Pv 0 σ H) (hl : ∀ i σ H, i ≤ xs.length → Pv i σ H → SqL K H a xs)
    (hs : ∀ i x σ H, xs[i]? = some x → Pv i σ H → g x σ H fun σ2 H2 => tb { D with nx := Pv (i + 1), ct := Pv (i + 1), bk := D.nx } σ2 H2) (hd : ∀ σ H, Pv xs.length σ H → D.nx σ H) :
    ∃ W : Nat → Nat → St → Hp → Prop, (∃ m, W 0 m σ H) ∧ ∀ i m σ H, W i m σ H →
      ((Itl K a).stop i H ∧ D.nx σ H) ∨ ((Itl K a).go i H ∧ ∃ N : St → Hp → Prop, (∀ σ' H', N σ' H' → ∃ m', m' < m ∧ W (i + 1) m' σ' H') ∧ ∀ x H', (Itl K a).yld i H x H' → g x σ H' fun σ2 H2 => tb { D with nx := N, ct := N, bk := D.nx } σ2 H2) := by
  refine ⟨fun i m σ H => m = xs.length - i ∧ i ≤ xs.length ∧ Pv i σ H, ⟨xs.length, by simp, Nat.zero_le _, h0⟩, ?_⟩
  rintro i m σ H ⟨rfl, hi, p⟩
  have q := hl i σ H hi p
  by_cases hlt : i < xs.length
  · refine .inr ⟨⟨xs, xs[i], q, by simp [hlt]⟩, Pv (i + 1), fun σ' H' p' => ⟨xs.length - (i + 1), by omega, rfl, hlt, p'⟩, fun x H' y => ?_⟩
    obtain ⟨e, y⟩ := y
    subst e
    exact hs i x σ _ (y xs q) p
  · have e : i = xs.length := by omega
    subst e
    exact .inl ⟨⟨xs, q, Nat.le_refl _⟩, hd σ H p⟩
theorem for_range {lo : Int} {n : Nat} {g : TG} {tb : TS} {D : Ends} {σ : St} {H : Hp} (Pv : Nat → St → Hp → Prop) (h0 : Pv 0 σ H)
    (hs : ∀ i σ H, i < n → Pv i σ H → g (.int (lo + i)) σ H fun σ2 H2 => tb { D with nx := Pv (i + 1), ct := Pv (i + 1), bk := D.nx } σ2 H2) (hd : ∀ σ H, Pv n σ H → D.nx σ H) :
    ∃ W : Nat → Nat → St → Hp → Prop, (∃ m, W 0 m σ H) ∧ ∀ i m σ H, W i m σ H →
      ((Itr lo n).stop i H ∧ D.nx σ H) ∨ ((Itr lo n).go i H ∧ ∃ N : St → Hp → Prop, (∀ σ' H', N σ' H' → ∃ m', m' < m ∧ W (i + 1) m' σ' H') ∧ ∀ x H', (Itr lo n).yld i H x H' → g x σ H' fun σ2 H2 => tb { D with nx := N, ct := N, bk := D.nx } σ2 H2) := by
  refine ⟨fun i m σ H => m = n - i ∧ i ≤ n ∧ Pv i σ H, ⟨n, by simp, Nat.zero_le _, h0⟩, ?_⟩
  rintro i m σ H ⟨rfl, hi, p⟩
  by_cases hlt : i < n
  · refine .inr ⟨hlt, Pv (i + 1), fun σ' H' p' => ⟨n - (i + 1), by omega, rfl, hlt, p'⟩, fun x H' y => ?_⟩
    obtain ⟨e, y⟩ := y
    subst e y
    exact hs i σ _ hlt p
  · have e : i = n := by omega
    subst e
    exact .inl ⟨Nat.le_refl _, hd σ H p⟩
end L2
namespace L2
open PySem PySem.Spec PyProof.Rows
abbrev R2 := V → V → Hp → VK → Prop
def OpR (X : Cx) (f : Value → Value → Sem Value) (r : R2) : Prop :=
  ∀ (pins : List (Addr × Obj)) (s : Shared) (σ : St) (H : Hp) (x y : V) (v u : Value) (Q : VK), Inv X pins σ H s → RelV x v → RelV y u → r x y H Q →
    wpAny (model X.prog X.w) X.A (f v u) (EP X pins σ Q) X.xe s
def UnR (X : Cx) (f : Value → Sem Value) (r : V → Hp → VK → Prop) : Prop :=
  ∀ (pins : List (Addr × Obj)) (s : Shared) (σ : St) (H : Hp) (x : V) (v : Value) (Q : VK), Inv X pins σ H s → RelV x v → r x H Q →
    wpAny (model X.prog X.w) X.A (f v) (EP X pins σ Q) X.xe s
def CallR (X : Cx) (f : Value) (r : List V → Hp → VK → Prop) : Prop :=
  ∀ (pins : List (Addr × Obj)) (s : Shared) (σ : St) (H : Hp) (xs : List V) (us : List Value) (Q : VK), Inv X pins σ H s → Vals xs us → r xs H Q →
    wpAny (model X.prog X.w) X.A (call f us) (EP X pins σ Q) X.xe s
def TruR (X : Cx) (r : V → Hp → (Bool → Hp → Prop) → Prop) : Prop :=
  ∀ (pins : List (Addr × Obj)) (s : Shared) (σ : St) (H : Hp) (x : V) (v : Value) (Q : Bool → Hp → Prop), Inv X pins σ H s → RelV x v → r x H Q →
    wpAny (model X.prog X.w) X.A (truthy v) (TP X pins σ Q) X.xe s
def tOp (r : R2) (ta tb : TE) : TE := fun σ H Q => ta σ H fun x H1 => tb σ H1 fun y H2 => r x y H2 Q
def tUn (r : V → Hp → VK → Prop) (ta : TE) : TE := fun σ H Q => ta σ H fun x H1 => r x H1 Q
def rI (C : Int → Int → Prop) (g : Int → Int → V) : R2 := fun x y H Q => ∃ i j, x = .int i ∧ y = .int j ∧ C i j ∧ Q (g i j) H
def rI0 (g : Int → Int → V) : R2 := fun x y H Q => ∃ i j, x = .int i ∧ y = .int j ∧ Q (g i j) H
def rU (g : Int → V) : V → Hp → VK → Prop := fun x H Q => ∃ i, x = .int i ∧ Q (g i) H
section
variable {X : Cx} {a b c : Expr} {ta tb tc : TE} {pos : Pos}
theorem binT (ha : PE X a ta) (hb : PE X b tb) {pins : List (Addr × Obj)} {s : Shared} {σ : St} {H : Hp} {R : V → V → Hp → Prop} (I : Inv X pins σ H s)
    (h : ta σ H fun x H1 => tb σ H1 fun y H2 => R x y H2) {Q : Value → Shared → Prop} {f : Value → Value → Sem Value}
    (hf : ∀ v u s2 x y H2, Inv X pins σ H2 s2 → RelV x v → RelV y u → R x y H2 → wpAny (model X.prog X.w) X.A (f v u) Q X.xe s2) :
    wpAny (model X.prog X.w) X.A (eval a X.env) (fun v s₁ => wpAny (model X.prog X.w) X.A (eval b X.env) (fun u s₂ => wpAny (model X.prog X.w) X.A (f v u) Q X.xe s₂) X.xe s₁) X.xe s := by
  refine thn (ha pins s σ H _ I h) fun v s1 ⟨x, H1, I1, r1, q1⟩ => ?_
  refine thn (hb pins s1 σ H1 _ I1 q1) fun u s2 ⟨y, H2, I2, r2, q2⟩ => ?_
  exact hf v u s2 x y H2 I2 r1 r2 q2
theorem pe_op {op : Operator} {r : R2} (ho : OpR X (binaryOp op) r) (ha : PE X a ta) (hb : PE X b tb) : PE X (.BinOp a op b pos) (tOp r ta tb) := by
  intro pins s σ H Q I h
  exact wpAny_BinOp (binT ha hb I h fun v u s2 x y H2 I2 rx ry q => ho pins s2 σ H2 x y v u Q I2 rx ry q)
theorem pe_un {op : UnaryOp} {r : V → Hp → VK → Prop} (ho : UnR X (unaryOp op) r) (ha : PE X a ta) : PE X (.UnaryOp op a pos) (tUn r ta) := by
  intro pins s σ H Q I h
  exact UnaryOp_ (thn (ha pins s σ H _ I h) fun v s1 ⟨x, H1, I1, r1, q1⟩ => ho pins s1 σ H1 x v Q I1 r1 q1)
theorem opI {f : Value → Value → Sem Value} {C : Int → Int → Prop} {g : Int → Int → Int}
    (rule : ∀ (i j : Int) (t u : Tok) (s : Shared) (Q : Value → Shared → Prop) (E : Value → Shared → Prop), C i j → Q (.int (g i j) s.toks) { s with toks := s.toks + 1 } → wpAny (model X.prog X.w) X.A (f (.int i t) (.int j u)) Q E s) :
    OpR X f (rI C fun i j => .int (g i j)) := by
  intro pins s σ H x y v u Q I rx ry h
  obtain ⟨i, j, rfl, rfl, hc, q⟩ := h
  obtain ⟨t, rfl⟩ := rx
  obtain ⟨t', rfl⟩ := ry
  exact rule i j t t' s _ _ hc ⟨.int (g i j), H, I.tok _, ⟨_, rfl⟩, q⟩
theorem opI0 {f : Value → Value → Sem Value} {g : Int → Int → Int}
    (rule : ∀ (i j : Int) (t u : Tok) (s : Shared) (Q : Value → Shared → Prop) (E : Value → Shared → Prop), Q (.int (g i j) s.toks) { s with toks := s.toks + 1 } → wpAny (model X.prog X.w) X.A (f (.int i t) (.int j u)) Q E s) :
    OpR X f (rI0 fun i j => .int (g i j)) := by
  intro pins s σ H x y v u Q I rx ry h
  obtain ⟨i, j, rfl, rfl, q⟩ := h
  obtain ⟨t, rfl⟩ := rx
  obtain ⟨t', rfl⟩ := ry
  exact rule i j t t' s _ _ ⟨.int (g i j), H, I.tok _, ⟨_, rfl⟩, q⟩
theorem opB0 {f : Value → Value → Sem Value} {g : Int → Int → Bool}
    (rule : ∀ (i j : Int) (t u : Tok) (s : Shared) (Q : Value → Shared → Prop) (E : Value → Shared → Prop), Q (.bool (g i j)) s → wpAny (model X.prog X.w) X.A (f (.int i t) (.int j u)) Q E s) :
    OpR X f (rI0 fun i j => .bl (g i j)) := by
  intro pins s σ H x y v u Q I rx ry h
  obtain ⟨i, j, rfl, rfl, q⟩ := h
  obtain ⟨t, rfl⟩ := rx
  obtain ⟨t', rfl⟩ := ry
  exact rule i j t t' s _ _ ⟨.bl (g i j), H, I, rfl, q⟩
def CDiv (i j : Int) : Prop := 0 < j ∧ j < 1073741824
def CMul (i j : Int) : Prop := (-(2 ^ 64) < i ∧ i < 2 ^ 64) ∨ (-(2 ^ 64) < j ∧ j < 2 ^ 64)
theorem CMul.ok {i j : Int} (h : CMul i j) : IntMulOk i j := by
  rcases h with ⟨h1, h2⟩ | ⟨h1, h2⟩
  · exact .of_left (intBits_le_64 h1 h2)
  · exact .of_right (intBits_le_64 h1 h2)
theorem op_add : OpR X (binaryOp .Add) (rI0 fun i j => .int (i + j)) := opI0 fun _ _ _ _ _ _ _ q => add_int q
theorem op_sub : OpR X (binaryOp .Sub) (rI0 fun i j => .int (i - j)) := opI0 fun _ _ _ _ _ _ _ q => sub_int q
theorem op_mul : OpR X (binaryOp .Mult) (rI CMul fun i j => .int (i * j)) := opI fun _ _ _ _ _ _ _ hc q => mul_int q hc.ok
theorem op_fdiv : OpR X (binaryOp .FloorDiv) (rI CDiv fun i j => .int (i / j)) := opI fun i j _ _ _ _ _ hc q => by
  have h1 : (0 : Int) < j := hc.1
  have h2 : j < 1073741824 := hc.2
  exact floordiv_int (by omega) (by rw [Int.fdiv_eq_ediv_of_nonneg i (by omega)]; exact q) (.inl (PyProof.noPylong_small (by omega)))
theorem unI {f : Value → Sem Value} {g : Int → Int}
    (rule : ∀ (i : Int) (t : Tok) (s : Shared) (Q : Value → Shared → Prop) (E : Value → Shared → Prop), Q (.int (g i) s.toks) { s with toks := s.toks + 1 } → wpAny (model X.prog X.w) X.A (f (.int i t)) Q E s) :
    UnR X f (rU fun i => .int (g i)) := by
  intro pins s σ H x v Q I rx h
  obtain ⟨i, rfl, q⟩ := h
  obtain ⟨t, rfl⟩ := rx
  exact rule i t s _ _ ⟨.int (g i), H, I.tok _, ⟨_, rfl⟩, q⟩
theorem un_neg : UnR X (unaryOp .USub) (rU fun i => .int (-i)) := unI fun _ _ _ _ _ q => neg_int q
end
def scal : V → V → Bool
  | .non, .non => true | .non, .int _ => true | .int _, .non => true | .non, .bl _ => true | .bl _, .non => true | .non, .str _ => true | .str _, .non => true
  | .int _, .int _ => true | .bl _, .bl _ => true | .str _, .str _ => true | .byt _, .byt _ => true
  | .int _, .str _ => true | .str _, .int _ => true | .bl _, .str _ => true | .str _, .bl _ => true
  | _, _ => false
def rEq : R2 := fun x y H Q => scal x y = true ∧ Q (.bl (decide (x = y))) H
theorem dec_int {i j : Int} : decide (V.int i = V.int j) = (i == j) := by
  rw [Bool.eq_iff_iff]
  simp
theorem dec_bl {i j : Bool} : decide (V.bl i = V.bl j) = (i == j) := by
  rw [Bool.eq_iff_iff]
  simp
theorem dec_str {i j : Str} : decide (V.str i = V.str j) = (i == j) := by
  rw [Bool.eq_iff_iff]
  simp
theorem dec_byt {i j : Array UInt8} : decide (V.byt i = V.byt j) = (i.toList == j.toList) := by
  rw [Bool.eq_iff_iff]
  cases i
  cases j
  simp
section
variable {X : Cx} {a b c : Expr} {ta tb tc : TE} {pos : Pos}
theorem fin_bl {pins : List (Addr × Obj)} {σ : St} {H : Hp} {s : Shared} {Q : VK} {k k' : Bool} (I : Inv X pins σ H s) (q : Q (.bl k) H) (e : k = k') : EP X pins σ Q (.bool k') s := by
  subst e
  exact ⟨.bl k, H, I, rfl, q⟩
theorem op_eq : OpR X (compareOp .Eq) rEq := by
  intro pins s σ H x y v u Q I rx ry h
  obtain ⟨hs, q⟩ := h
  cases x with
  | non =>
    cases rx
    cases y with
    | non => cases ry; exact PySem.EqNone.eq_none_none (fin_bl I q (by simp))
    | bl j => cases ry; exact PySem.EqNone.eq_none_bool (fin_bl I q (by simp))
    | int j => obtain ⟨t', rfl⟩ := ry; exact PySem.EqNone.eq_none_int (fin_bl I q (by simp))
    | str j => obtain ⟨t', rfl⟩ := ry; exact PySem.EqNone.eq_none_str (fin_bl I q (by simp))
    | _ => exact absurd (show false = true from hs) Bool.false_ne_true
  | bl i =>
    cases rx
    cases y with
    | non => cases ry; exact PySem.EqNone.eq_bool_none (fin_bl I q (by simp))
    | bl j => cases ry; exact eq_bool (fin_bl I q dec_bl)
    | str j => obtain ⟨t', rfl⟩ := ry; exact PySem.EqMixed.eq_bool_str (fin_bl I q (by simp))
    | _ => exact absurd (show false = true from hs) Bool.false_ne_true
  | int i =>
    obtain ⟨t, rfl⟩ := rx
    cases y with
    | non => cases ry; exact PySem.EqNone.eq_int_none (fin_bl I q (by simp))
    | int j => obtain ⟨t', rfl⟩ := ry; exact eq_int (fin_bl I q dec_int)
    | str j => obtain ⟨t', rfl⟩ := ry; exact PySem.EqMixed.eq_int_str (fin_bl I q (by simp))
    | _ => exact absurd (show false = true from hs) Bool.false_ne_true
  | str i =>
    obtain ⟨t, rfl⟩ := rx
    cases y with
    | non => cases ry; exact PySem.EqNone.eq_str_none (fin_bl I q (by simp))
    | bl j => cases ry; exact PySem.EqMixed.eq_str_bool (fin_bl I q (by simp))
    | int j => obtain ⟨t', rfl⟩ := ry; exact PySem.EqMixed.eq_str_int (fin_bl I q (by simp))
    | str j => obtain ⟨t', rfl⟩ := ry; exact eq_str (fin_bl I q dec_str)
    | _ => exact absurd (show false = true from hs) Bool.false_ne_true
  | byt i =>
    obtain ⟨t, rfl⟩ := rx
    cases y with
    | byt j => obtain ⟨t', rfl⟩ := ry; exact PySem.W.eq_bytes (fin_bl I q dec_byt)
    | _ => exact absurd (show false = true from hs) Bool.false_ne_true
  | _ => cases y <;> exact absurd (show false = true from hs) Bool.false_ne_true
theorem op_lt : OpR X (compareOp .Lt) (rI0 fun i j => .bl (decide (i < j))) := opB0 fun _ _ _ _ _ _ _ q => lt_int q
theorem op_le : OpR X (compareOp .LtE) (rI0 fun i j => .bl (decide (i ≤ j))) := opB0 fun _ _ _ _ _ _ _ q => le_int q
theorem op_gt : OpR X (compareOp .Gt) (rI0 fun i j => .bl (decide (j < i))) := opB0 fun _ _ _ _ _ _ _ q => gt_int q
theorem op_ge : OpR X (compareOp .GtE) (rI0 fun i j => .bl (decide (j ≤ i))) := opB0 fun _ _ _ _ _ _ _ q => ge_int q
theorem nomark (b : Expr) {op : CmpOp} (h : op ≠ .In := by decide) (h2 : op ≠ .NotIn := by decide) : behindInMarks op b = false := by
  have e1 : (op == CmpOp.In) = false := by cases op <;> first | rfl | exact absurd rfl h
  have e2 : (op == CmpOp.NotIn) = false := by cases op <;> first | rfl | exact absurd rfl h2
  cases b <;> simp [behindInMarks, e1, e2]
theorem pe_cmpR {op : CmpOp} {r : R2} (ho : OpR X (compareOp op) r) (ha : PE X a ta) (hb : PE X b tb) (hm : behindInMarks op b = false) : PE X (.Compare a [op] [b] pos) (tOp r ta tb) := by
  intro pins s σ H Q I h
  exact wpAny_Compare1 (binT ha hb I h fun v u s2 x y H2 I2 rx ry q => ho pins s2 σ H2 x y v u Q I2 rx ry q) hm
def tTest (t : TE) : TT := fun σ H Q => t σ H fun x H' => ∃ k, x = .bl k ∧ Q k H'
theorem pt_cmpR {op : CmpOp} {r : R2} (ho : OpR X (compareOp op) r) (ha : PE X a ta) (hb : PE X b tb) (hm : behindInMarks op b = false) : PT X (.Compare a [op] [b] pos) (tTest (tOp r ta tb)) := by
  intro pins s σ H Q I h
  refine wpAny_isTrue_Compare1 (thn (ha pins s σ H _ I h) fun v s1 ⟨x, H1, I1, r1, q1⟩ => thn (hb pins s1 σ H1 _ I1 q1) fun u s2 ⟨y, H2, I2, r2, q2⟩ =>
    thn (ho pins s2 σ H2 x y v u _ I2 r1 r2 q2) fun c s3 ⟨z, H3, I3, r3, k, e, q3⟩ => ?_) hm
  subst e
  cases r3
  exact wpAny_truthy_bool ⟨H3, I3, q3⟩
def tChain (r r' : R2) (ta tb tc : TE) : TE := fun σ H Q => ta σ H fun x H1 => tb σ H1 fun y H2 => r x y H2 fun z H3 => ∃ k, z = .bl k ∧
  (if k = true then tc σ H3 fun w' H4 => r' y w' H4 Q else Q (.bl false) H3)
theorem pe_chain {op op' : CmpOp} {r r' : R2} (ho : OpR X (compareOp op) r) (ho' : OpR X (compareOp op') r') (ha : PE X a ta) (hb : PE X b tb) (hc : PE X c tc)
    (hm : lastMarks [op, op'] [b, c] = false := by with_unfolding_all rfl) : PE X (.Compare a [op, op'] [b, c] pos) (tChain r r' ta tb tc) := by
  intro pins s σ H Q I h
  refine Compare_chain (thn (ha pins s σ H _ I h) fun v s1 ⟨x, H1, I1, r1, q1⟩ => chain_link (thn (hb pins s1 σ H1 _ I1 q1) fun u s2 ⟨y, H2, I2, r2, q2⟩ =>
    thn (ho pins s2 σ H2 x y v u _ I2 r1 r2 q2) fun d s3 ⟨z, H3, I3, r3, k, e, q3⟩ => ?_)) hm
  subst e
  cases r3
  refine wpAny_truthy_bool ?_
  cases k with
  | false => exact ite_ff ⟨.bl false, H3, I3, rfl, q3⟩
  | true => exact ite_tt (chain_last (thn (hc pins s3 σ H3 _ I3 q3) fun w' s4 ⟨z', H4, I4, r4, q4⟩ => ho' pins s4 σ H4 y z' u w' Q I4 r2 r4 q4))
def TruV (K : PySem.W.Frag) (x : V) (H : Hp) (k : Bool) : Prop :=
  match x with
  | .non => k = false
  | .bl b => k = b
  | .int i => k = (i != 0)
  | .str y => y.length ≤ sizeLine ∧ k = ((y.length : Int) != 0)
  | .byt y => y.size ≤ sizeLine ∧ k = ((y.size : Int) != 0)
  | .ref p => (∃ xs, SqL K H p xs ∧ k = !xs.isEmpty) ∨ (∃ xs, SqT K H p xs ∧ k = !xs.isEmpty) ∨ ∃ kvs, H p = some (.dK kvs) ∧ k = !kvs.isEmpty
  | _ => False
theorem isEmpty_kv {κ : Type} {kvs : List (κ × V)} {vs : List (κ × Value)} (r : KV kvs vs) : (!vs.isEmpty) = !kvs.isEmpty := by
  cases r <;> rfl
theorem isEmpty_of {xs : List V} {its : List Value} (r : Vals xs its) : (!its.toArray.isEmpty) = !xs.isEmpty := by
  cases r <;> simp
theorem line63 : (sizeLine : Nat) < 2 ^ 63 := by rw [sizeLine_eq]; decide
theorem tru_ok : TruR X (fun x H Q => ∃ k, TruV X.K x H k ∧ Q k H) := by
  intro pins s σ H x v Q I rx h
  obtain ⟨k, e, q⟩ := h
  have hl := line63
  have hs : sizeLine = 16777216 := sizeLine_eq
  cases x with
  | non =>
    cases rx
    have e' : k = false := e
    subst e'
    exact truthy_none ⟨H, I, q⟩
  | bl b =>
    cases rx
    have e' : k = b := e
    subst e'
    exact wpAny_truthy_bool ⟨H, I, q⟩
  | int i =>
    obtain ⟨t, rfl⟩ := rx
    have e' : k = (i != 0) := e
    subst e'
    exact PySem.P.truthy_int ⟨H, I, q⟩
  | str y =>
    obtain ⟨t, rfl⟩ := rx
    obtain ⟨hy, e'⟩ : y.length ≤ sizeLine ∧ k = ((y.length : Int) != 0) := e
    subst e'
    exact PySem.P.truthy_str (by omega) ⟨H, I.tok _, q⟩
  | byt y =>
    obtain ⟨t, rfl⟩ := rx
    obtain ⟨hy, e'⟩ : y.size ≤ sizeLine ∧ k = ((y.size : Int) != 0) := e
    subst e'
    exact PySem.W.truthy_bytes (by omega) ⟨H, I.tok _, q⟩
  | ref p =>
    cases rx
    have e' : (∃ xs, SqL X.K H p xs ∧ k = !xs.isEmpty) ∨ (∃ xs, SqT X.K H p xs ∧ k = !xs.isEmpty) ∨ ∃ kvs, H p = some (.dK kvs) ∧ k = !kvs.isEmpty := e
    rcases e' with ⟨xs, hx, e'⟩ | ⟨xs, hx, e'⟩ | ⟨kvs, hx, e'⟩
    · subst e'
      obtain ⟨its, r, pl, hz⟩ := I.list hx
      have hlen := r.length
      exact wpAny_truthy_list pl.isList (by simp only [List.size_toArray]; omega) ⟨H, I.tok _, by rw [isEmpty_of r]; exact q⟩
    · subst e'
      obtain ⟨its, r, pl, hz⟩ := I.tuple hx
      have hlen := r.length
      exact truthy_tuple pl (by simp only [List.size_toArray]; omega) ⟨H, I.tok _, by rw [isEmpty_of r]; exact q⟩
    · subst e'
      obtain ⟨hz, hS, vs, r, m⟩ : kvs.length ≤ sizeLine ∧ (p == sysModules) = false ∧ ∃ vs, KV kvs vs ∧ s.heap.DictOf (mixKind X.prog X.w) p vs := I.hok p _ hx
      have hlen : kvs.length = vs.length := Paired.length r
      exact wpAny_truthy_dict hS m (by omega) ⟨H, I.tok _, by rw [isEmpty_kv r]; exact q⟩
  | _ => exact (show False from e).elim
theorem pt_truth (ha : PE X a ta) (he : ∀ whole, isTrue a X.env whole = (do let v ← whole; standAt a.pos; holding [v] (truthy v))) :
    PT X a (fun σ H Q => ta σ H fun x H' => ∃ k, TruV X.K x H' k ∧ Q k H') := by
  intro pins s σ H Q I h
  exact isTrue_plain (thn (ha pins s σ H _ I h) fun v s1 ⟨x, H1, I1, r1, q1⟩ => tru_ok pins s1 σ H1 x v Q I1 r1 q1) (he _)
theorem vals1 {x : V} {us : List Value} (r : Vals [x] us) : ∃ u, us = [u] ∧ RelV x u := by
  cases r with
  | cons r1 r2 => cases r2; exact ⟨_, rfl, r1⟩
theorem vals2 {x y : V} {us : List Value} (r : Vals [x, y] us) : ∃ u w', us = [u, w'] ∧ RelV x u ∧ RelV y w' := by
  cases r with
  | cons r1 r2 =>
    cases r2 with
    | cons r3 r4 => cases r4; exact ⟨_, _, rfl, r1, r3⟩
theorem call_max2 (hc : X.calm = true) : CallR X (.builtin "max") (fun xs H Q => ∃ i j, xs = [.int i, .int j] ∧ Q (.int (if j > i then j else i)) H) := by
  intro pins s σ H xs us Q I r h
  obtain ⟨i, j, rfl, q⟩ := h
  obtain ⟨u, w', rfl, ⟨t, rfl⟩, ⟨t', rfl⟩⟩ := vals2 r
  refine max_two_ints (I.ok.hd hc) fun h' tk k => ⟨_, H, I.kept k, ?_, q⟩
  by_cases hj : j > i
  · rw [if_pos hj, if_pos hj]; exact ⟨_, rfl⟩
  · rw [if_neg hj, if_neg hj]; exact ⟨_, rfl⟩
theorem call_min2 (hc : X.calm = true) : CallR X (.builtin "min") (fun xs H Q => ∃ i j, xs = [.int i, .int j] ∧ Q (.int (if j < i then j else i)) H) := by
  intro pins s σ H xs us Q I r h
  obtain ⟨i, j, rfl, q⟩ := h
  obtain ⟨u, w', rfl, ⟨t, rfl⟩, ⟨t', rfl⟩⟩ := vals2 r
  refine min_two_ints (I.ok.hd hc) fun h' tk k => ⟨_, H, I.kept k, ?_, q⟩
  by_cases hj : j < i
  · rw [if_pos hj, if_pos hj]; exact ⟨_, rfl⟩
  · rw [if_neg hj, if_neg hj]; exact ⟨_, rfl⟩
end
end L2
namespace L2
open PySem PySem.Spec PyProof.Rows
structure ObjM (h : Heap) (x dx C : Addr) (mA : Str → Option Value) : Prop where
  obj : h.get? x = some (PySem.W.instObj C dx)
  ns : h.Ns1 dx mA
  ne : dx ≠ x
theorem lookIn_ns {h : Heap} {dx : Addr} {mA : Str → Option Value} (n : h.Ns1 dx mA) : ∃ od, h.get? dx = some od ∧ ∀ name, PySem.W.lookIn name od = some (mA name) := by
  obtain ⟨o, es, ep, ho, hd, hk, _, hm⟩ := n
  refine ⟨o, ho, fun name => ?_⟩
  have e := hm name
  unfold nsFind findBy at e
  rw [← Array.find?_toList] at e
  unfold PySem.W.lookIn
  rw [hd]
  dsimp only
  split
  · rename_i y q
    rw [q] at e
    exact congrArg some e
  · rename_i q
    rw [q] at e
    have a : es.toList.any (·.refKey) = false := by
      rw [List.any_eq_false]
      intro y hy
      obtain ⟨z, t, hkey⟩ := hk y (Array.mem_toList_iff.mp hy)
      simp [DictEntry.refKey, hkey]
    have a' : ¬ es.toList.any (·.refKey) = true := by rw [a]; exact Bool.false_ne_true
    rw [if_neg a']
    exact congrArg some e
theorem ObjM.look {h : Heap} {x dx C : Addr} {mA : Str → Option Value} (I : ObjM h x dx C mA) : ∃ od, PySem.W.InstAt h x (PySem.W.instObj C dx) C (some od) ∧ ∀ name, PySem.W.lookIn name od = some (mA name) :=
  let ⟨od, ho, hl⟩ := lookIn_ns I.ns
  ⟨od, ⟨I.obj, rfl, rfl, ho⟩, hl⟩
section
variable {prog : Program} {w : World} {A : Around} {E : Value → Shared → Prop} {s : Shared} {K : PySem.W.Frag} {x dx C f : Addr} {mA : Str → Option Value} {name : Str} {v : Value}
theorem get_map {expr : Bool} {Q : Value → Shared → Prop} (X : K.In s.heap) (I : ObjM s.heap x dx C mA) (hg : PySem.W.plainGet K C name = true) (hh : PySem.W.hasDictIn K C = true)
    (ha : PySem.W.findIn K (.ref C) name = some none) (hv : mA name = some v) (hv' : PySem.W.handedIn v = true) (h : Q v { s with toks := s.toks + 1 }) :
    wpAny (model prog w) A (getAttr (.ref x) name expr) Q E s := by
  obtain ⟨od, J, hl⟩ := I.look
  exact PySem.W.get_value X J (PySem.W.plainGet_of hg).1 (PySem.W.findObj_own hh ha rfl (by rw [hl, hv])) hv' h
theorem get_meth {pl : Sem Bool} {Q : Value × List Value → Shared → Prop} (X : K.In s.heap) (I : ObjM s.heap x dx C mA) (hg : PySem.W.plainGet K C name = true)
    (hf : PySem.W.findIn K (.ref C) name = some (some (.ref f))) (ht : PySem.W.isFn K (.ref f) = true) (hv : mA name = none) (h : Q (.ref f, [.ref x]) s) :
    wpAny (model prog w) A (getMethod (.ref x) name pl) Q E s := by
  obtain ⟨od, J, hl⟩ := I.look
  exact PySem.W.method_fn X J (PySem.W.plainGet_of hg).1 (PySem.W.plainGet_of hg).2 hf (beq_iff_eq.mp ht) (by show (PySem.W.lookIn name od).map (·.isSome) = some false; rw [hl, hv]; rfl) h
theorem set_map {ns : List Str} {Q : Unit → Shared → Prop} (X : K.In s.heap) (I : ObjM s.heap x dx C mA)
    (hs : PySem.W.findIn K (.ref C) "__setattr__" = some (some (.builtin "object.__setattr__"))) (hp : PySem.W.plainOver K C = true) (ht : PySem.W.takerIn K C name = some none) (hh : PySem.W.hasDictIn K C = true)
    (hw : PySem.Within mA ns) (hsz : ns.length ≤ sizeLine)
    (h : ∀ h', ObjM h' x dx C (fun y => if y = name then some v else mA y) → Heap.SameBut dx s.heap h' → Q () { s with heap := h', toks := s.toks + 2 }) :
    wpAny (model prog w) A (setAttr (.ref x) name v) Q E s := by
  obtain ⟨od, J, hl⟩ := I.look
  refine PySem.W.set_plain X J hs (PySem.W.osa_open (s := { s with toks := s.toks + 1 }) (r := none) X J hp ht fun b => ?_)
  obtain ⟨cd, hc, hd'⟩ := PySem.W.any_some hh
  have hx : s.heap.get? x = some ⟨.ref C, some dx, .plain, #[]⟩ := I.obj
  refine wpAny_bind (wpAny_pure (wpAny_bind (wpAny_bind (wpAny_loadPart hx (wpAny_bind (PySem.W.Looks.here (s := { s with toks := s.toks + 1 }) (PySem.W.looks_clsIn X hc) ?_))))))
  rw [hd']
  refine wpAny_pure (a := some dx) (wpAny_bind (wpAny_pure (wpAny_bind ?_)))
  refine wpAny_nsSet1 (s := { s with toks := s.toks + 1 }) I.ns fun h' hn2 hs2 => ?_
  obtain ⟨oD, esD, epD, hoD, hdD, hcD⟩ := hn2.count (PySem.Within.cons name v hw)
  refine wpAny_bind (wpAny_lookBehind hoD (by rw [hdD]; exact pastItsLine_dict (Nat.le_trans hcD (by rw [List.length_cons]; omega))) ?_)
  exact wpAny_pure (h _ ⟨(hs2.2 _ (Ne.symm I.ne)).trans I.obj, hn2, I.ne⟩ hs2)
theorem make_map {R : Result → Shared → Prop} {vs : List Value} {kw : List (Str × Value)} (X : K.In s.heap) (hm : PySem.W.makesIn K C = true)
    (hi : PySem.W.findIn K (.ref C) "__init__" = some (some (.ref f))) (hf : PySem.W.typeIn K (.ref f) = some (.type "function"))
    (h : codeAny (model prog w) (A.under (.builtin "type.__call__" ⟨.ref C :: vs, kw⟩)) (.call (.ref f) ⟨.ref (s.heap.objs.size + 1) :: vs, kw⟩) (PySem.W.InitBack (s.heap.objs.size + 1) R)
      { s with heap := (s.heap.push PySem.W.emptyDict).push (PySem.W.instObj C s.heap.objs.size) }) :
    codeAny (model prog w) A (.call (.ref C) ⟨vs, kw⟩) R s := by
  obtain ⟨hh, g, d, t, os⟩ := s
  exact PySem.W.make_core (PySem.W.makes_of X hm) (PySem.W.looks_findIn X hi) (fun self => PySem.W.bind_fn X self hf) (.inl rfl) h
end
def putF (f : Str) (v : V) : List (Str × V) → List (Str × V)
  | [] => [(f, v)]
  | (g, x) :: r => if g = f then (g, v) :: r else (g, x) :: putF f v r
theorem lookup_putF (f g : Str) (v : V) : ∀ fs : List (Str × V), (putF f v fs).lookup g = if g = f then some v else fs.lookup g
  | [] => by
    show List.lookup g [(f, v)] = _
    by_cases h : g = f
    · have hb : (g == f) = true := beq_iff_eq.mpr h
      simp only [List.lookup, hb, if_pos h]
    · have hb : (g == f) = false := beq_eq_false_iff_ne.mpr h
      simp only [List.lookup, hb, if_neg h]
  | (k, x) :: r => by
    have ih := lookup_putF f g v r
    rw [show putF f v ((k, x) :: r) = (if k = f then (k, v) :: r else (k, x) :: putF f v r) from rfl]
    by_cases hk : k = f
    · rw [if_pos hk]
      by_cases h : g = k
      · have hb : (g == k) = true := beq_iff_eq.mpr h
        simp only [List.lookup, hb, if_pos (h.trans hk)]
      · have hb : (g == k) = false := beq_eq_false_iff_ne.mpr h
        simp only [List.lookup, hb, if_neg (fun e : g = f => h (e.trans hk.symm))]
    · rw [if_neg hk]
      by_cases h : g = k
      · have hb : (g == k) = true := beq_iff_eq.mpr h
        simp only [List.lookup, hb, if_neg (fun e : g = f => hk (h.symm.trans e))]
      · have hb : (g == k) = false := beq_eq_false_iff_ne.mpr h
        simp only [List.lookup, hb]
        exact ih
theorem keys_putF (f : Str) (v : V) : ∀ fs : List (Str × V), f ∈ (putF f v fs).map (·.1) ∧ ∀ g, g ∈ fs.map (·.1) → g ∈ (putF f v fs).map (·.1)
  | [] => ⟨by simp [putF], fun g h => by simp at h⟩
  | (k, x) :: r => by
    obtain ⟨i1, i2⟩ := keys_putF f v r
    rw [show putF f v ((k, x) :: r) = (if k = f then (k, v) :: r else (k, x) :: putF f v r) from rfl]
    by_cases hk : k = f
    · rw [if_pos hk]
      subst hk
      exact ⟨by simp, fun g h => by simpa using h⟩
    · rw [if_neg hk]
      refine ⟨?_, fun g h => ?_⟩
      · rw [List.map_cons]
        exact List.mem_cons_of_mem _ i1
      · rw [List.map_cons] at h ⊢
        rcases List.mem_cons.mp h with e | e
        · exact List.mem_cons.mpr (.inl e)
        · exact List.mem_cons_of_mem _ (i2 g e)
theorem length_putF (f : Str) (v : V) : ∀ fs : List (Str × V), (putF f v fs).length ≤ fs.length + 1
  | [] => by simp [putF]
  | (k, x) :: r => by
    have ih := length_putF f v r
    rw [show putF f v ((k, x) :: r) = (if k = f then (k, v) :: r else (k, x) :: putF f v r) from rfl]
    by_cases hk : k = f
    · rw [if_pos hk, List.length_cons, List.length_cons]; omega
    · rw [if_neg hk, List.length_cons, List.length_cons]; omega
theorem RelO.some_of {v : V} {o : Option Value} (r : RelO (some v) o) : ∃ u, o = some u ∧ RelV v u := by
  cases o with
  | none => exact (show False from r).elim
  | some u => exact ⟨u, rfl, r⟩
theorem RelO.none_of {o : Option Value} (r : RelO none o) : o = none := by
  cases o with
  | none => rfl
  | some u => exact (show False from r).elim
theorem handed_of {v : V} {u : Value} (r : RelV v u) : PySem.W.handedIn u = true := by
  cases v with
  | non => cases (show u = Value.none from r); rfl
  | bl b => cases (show u = Value.bool b from r); rfl
  | int i => obtain ⟨t, e⟩ := (show ∃ t, u = Value.int i t from r); cases e; rfl
  | str x => obtain ⟨t, e⟩ := (show ∃ t, u = Value.str x t from r); cases e; rfl
  | byt b => obtain ⟨t, e⟩ := (show ∃ t, u = Value.bytes b t from r); cases e; rfl
  | flt b => obtain ⟨t, e⟩ := (show ∃ t, u = Value.float b t from r); cases e; rfl
  | ref a => cases (show u = Value.ref a from r); rfl
  | ty n => cases (show u = Value.type n from r); rfl
section
variable {P : Program} {w : World} {H H' : Hp} {h h' : Heap} {a C dx : Addr} {fs fs' : List (Str × V)}
theorem ins_get (hok : HOk P w H h) (e : H a = some (.ins C dx fs)) : ∃ mA, ObjM h a dx C mA ∧ (∀ f, RelO (fs.lookup f) (mA f)) ∧ PySem.Within mA (fs.map (·.1)) ∧ fs.length ≤ 1000 ∧ H dx = some (.own a) := by
  obtain ⟨d, z, ne, ob, mA, n, r, q⟩ := (show ObjOk P w H h a (.ins C dx fs) from hok a _ e)
  exact ⟨mA, ⟨ob, n, ne⟩, r, q, z, d⟩
end
structure Cls (K : PySem.W.Frag) (C : Addr) : Prop where
  pg : PySem.W.plainGet K C Str.empty = true
  hd : PySem.W.hasDictIn K C = true
  po : PySem.W.plainOver K C = true
  sa : PySem.W.findIn K (.ref C) "__setattr__" = some (some (.builtin "object.__setattr__"))
theorem Cls.get {K : PySem.W.Frag} {C : Addr} (c : Cls K C) (f : Str) : PySem.W.plainGet K C f = true := c.pg
def NoAttr (K : PySem.W.Frag) (C : Addr) (f : Str) : Prop := PySem.W.findIn K (.ref C) f = some none
theorem NoAttr.taker {K : PySem.W.Frag} {C : Addr} {f : Str} (n : NoAttr K C f) : PySem.W.takerIn K C f = some none := by
  unfold PySem.W.takerIn
  rw [show PySem.W.findIn K (.ref C) f = some none from n]
  rfl
structure Meth (K : PySem.W.Frag) (C : Addr) (m : Str) (f : Addr) : Prop where
  at_ : PySem.W.findIn K (.ref C) m = some (some (.ref f))
  fn : PySem.W.isFn K (.ref f) = true
  kp : PySem.W.keepIn K (.ref f) = true
section
variable {X : Cx} {pins : List (Addr × Obj)} {σ : St} {H : Hp} {s : Shared} {a C dx : Addr} {fs : List (Str × V)} {f : Str} {v : V} {A : Around} {E : Value → Shared → Prop}
theorem getattr_ok {b : Bool} {Q : Value → Shared → Prop} (I : Inv X pins σ H s) (e : H a = some (.ins C dx fs)) (c : Cls X.K C) (n : NoAttr X.K C f) (l : fs.lookup f = some v)
    (h : ∀ u s', Inv X pins σ H s' → RelV v u → Q u s') : wpAny (model X.prog X.w) A (getAttr (.ref a) f b) Q E s := by
  obtain ⟨mA, O, r, _, _, _⟩ := ins_get I.hok e
  obtain ⟨u, hu, ru⟩ := RelO.some_of (v := v) (o := mA f) (by rw [← l]; exact r f)
  exact get_map I.kIn O (c.get f) c.hd n hu (handed_of ru) (h u _ (I.tok _) ru)
theorem getmeth_ok {m : Str} {g : Addr} {pl : Sem Bool} {Q : Value × List Value → Shared → Prop} (I : Inv X pins σ H s) (e : H a = some (.ins C dx fs)) (c : Cls X.K C) (k : Meth X.K C m g) (l : fs.lookup m = none)
    (h : Q (.ref g, [.ref a]) s) : wpAny (model X.prog X.w) A (getMethod (.ref a) m pl) Q E s := by
  obtain ⟨mA, O, r, _, _, _⟩ := ins_get I.hok e
  have hn : mA m = none := RelO.none_of (by rw [← l]; exact r m)
  exact get_meth I.kIn O (c.get m) k.at_ k.fn hn h
theorem setattr_ok {y : V} {u : Value} {Q : Unit → Shared → Prop} (I : Inv X pins σ H s) (e : H a = some (.ins C dx fs)) (c : Cls X.K C) (n : NoAttr X.K C f) (hl : fs.length < 1000) (ry : RelV y u)
    (h : ∀ s', Inv X pins σ (upd H a (.ins C dx (putF f y fs))) s' → Q () s') : wpAny (model X.prog X.w) A (setAttr (.ref a) f u) Q E s := by
  obtain ⟨mA, O, r, wi, _, ho⟩ := ins_get I.hok e
  have hz : (fs.map (·.1)).length ≤ sizeLine := by rw [List.length_map, sizeLine_eq]; omega
  refine set_map I.kIn O c.sa c.po n.taker c.hd wi hz fun h' O' sb => h _ ?_
  have hd : ∃ o, h'.get? dx = some o := let ⟨o, _, _, e', _⟩ := O'.ns; ⟨o, e'⟩
  refine I.write (x := a) (e := dx) (by rw [e]; exact True.intro) (.inr ho) (fun b q hb z => (sb.2 b hb).trans z) hd ?_
  refine ⟨by rw [upd_ne O.ne]; exact ho, ?_, O.ne, O'.obj, _, O'.ns, fun g => ?_, fun g hg => ?_⟩
  · have := length_putF f y fs; omega
  · show RelO ((putF f y fs).lookup g) (if g = f then some u else mA g)
    rw [lookup_putF]
    by_cases q : g = f
    · rw [if_pos q, if_pos q]; exact ry
    · rw [if_neg q, if_neg q]; exact r g
  · by_cases q : g = f
    · rw [q]; exact (keys_putF f y fs).1
    · refine (keys_putF f y fs).2 g (wi g fun z => hg ?_)
      show (if g = f then some u else mA g) = none
      rw [if_neg q]; exact z
theorem Inv.made (I : Inv X pins σ H s) : Inv X pins σ (upd (upd H s.heap.objs.size (.own (s.heap.objs.size + 1))) (s.heap.objs.size + 1) (.ins C s.heap.objs.size []))
    { s with heap := (s.heap.push PySem.W.emptyDict).push (PySem.W.instObj C s.heap.objs.size) } := by
  have e1 : (s.heap.push PySem.W.emptyDict).get? s.heap.objs.size = some PySem.W.emptyDict := Heap.get?_push_size s.heap rfl
  have e2 : ((s.heap.push PySem.W.emptyDict).push (PySem.W.instObj C s.heap.objs.size)).get? (s.heap.objs.size + 1) = some (PySem.W.instObj C s.heap.objs.size) := by
    have := Heap.get?_push_size (s.heap.push PySem.W.emptyDict) (o := PySem.W.instObj C s.heap.objs.size) rfl
    rwa [Heap.size_push] at this
  have e3 : (s.heap.push PySem.W.emptyDict).Ns s.heap.objs.size (fun _ => none) := ⟨PySem.W.emptyDict, #[], _, e1, rfl, (fun e he => absurd he (by simp)), fun _ => rfl⟩
  have I1 := I.laid (a := s.heap.objs.size) (o := .own (s.heap.objs.size + 1)) (h' := s.heap.push PySem.W.emptyDict) (t' := s.toks) (fun b u q => Heap.get?_push_of_some _ q) (Nat.le_refl _) ⟨_, e1⟩
  refine I1.laid (a := s.heap.objs.size + 1) (o := .ins C s.heap.objs.size []) (t' := s.toks) (fun b u q => Heap.get?_push_of_some _ q) (Nat.le_of_eq (Heap.size_push _ _)) ?_
  have ne : s.heap.objs.size ≠ s.heap.objs.size + 1 := Nat.ne_of_lt (Nat.lt_succ_self _)
  refine ⟨by rw [upd_ne ne, upd_same], Nat.zero_le _, ne, e2, fun _ => none, (Heap.Ns1.of_empty e3).at fun o q => Heap.get?_push_of_some _ q, fun _ => True.intro, fun y hy => absurd rfl hy⟩
theorem attr_of {prog : Program} {w : World} {env : Env} {e : Expr} {f : Str} {pos : Pos} {s : Shared} {Q : Value → Shared → Prop} (hb : attributeBase e f env (eval e env) = eval e env)
    (h : wpAny (model prog w) A (eval e env) (fun o s₁ => wpAny (model prog w) A (getAttr o f true) Q E s₁) E s) : wpAny (model prog w) A (eval (.Attribute e f pos) env) Q E s :=
  Attribute_any_ h (by rw [arm_eval_Attribute, hb])
end
def tFld (K : PySem.W.Frag) (ta : TE) (f : Str) : TE := fun σ H Q => ta σ H fun x H1 => ∃ a C dx fs v, x = .ref a ∧ H1 a = some (.ins C dx fs) ∧ Cls K C ∧ NoAttr K C f ∧ fs.lookup f = some v ∧ Q v H1
def sFld (K : PySem.W.Frag) (ta tv : TE) (f : Str) : TS := fun D σ H => tv σ H fun y H1 => ta σ H1 fun x H2 => ∃ a C dx fs, x = .ref a ∧ H2 a = some (.ins C dx fs) ∧ Cls K C ∧ NoAttr K C f ∧ fs.length < 1000 ∧
  D.nx σ (upd H2 a (.ins C dx (putF f y fs)))
def InOp (X : Cx) (op : Operator) (rd : V → V → Hp → VK → Prop) : Prop :=
  ∀ (pins : List (Addr × Obj)) (s : Shared) (σ : St) (H : Hp) (x y : V) (u v : Value) (Q : VK), Inv X pins σ H s → RelV x u → RelV y v → rd x y H Q → wpAny (model X.prog X.w) X.A (inplaceOp op u v) (EP X pins σ Q) X.xe s
def sFldAug (K : PySem.W.Frag) (ta tv : TE) (rd : V → V → Hp → VK → Prop) (f : Str) : TS := fun D σ H => ta σ H fun x H1 => ∃ a C dx fs v, x = .ref a ∧ H1 a = some (.ins C dx fs) ∧ Cls K C ∧ NoAttr K C f ∧ fs.lookup f = some v ∧
  tv σ H1 fun y H2 => rd v y H2 fun z H3 => ∃ dx' fs', H3 a = some (.ins C dx' fs') ∧ fs'.length < 1000 ∧ D.nx σ (upd H3 a (.ins C dx' (putF f z fs')))
section
variable {X : Cx} {o e value : Expr} {f : Str} {pos pos' tpos : Pos} {ta tv : TE}
theorem pe_fld (he : PE X e ta) (hb : attributeBase e f X.env (eval e X.env) = eval e X.env) : PE X (.Attribute e f pos) (tFld X.K ta f) := by
  intro pins s σ H Q I h
  refine attr_of hb (thn (he pins s σ H _ I h) fun u s1 ⟨x, H1, I1, rx, a, C, dx, fs, v, ex, ea, c, n, l, q⟩ => ?_)
  subst ex
  obtain rfl : u = Value.ref a := rx
  exact getattr_ok I1 ea c n l fun u' s2 I2 ru => ⟨v, H1, I2, ru, q⟩
theorem ps_fld (ha : PE X o ta) (hv : PE X value tv) (hs : swapsWith value (some (.Attribute o f pos')) pos.line X.env = pure false) : PS X (.Assign [.Attribute o f pos'] value pos) (sFld X.K ta tv f) := by
  intro pins s σ H D I h
  refine plainObj_wpAny_Assign_Attribute (thn (hv pins s σ H _ I h) fun u s1 ⟨y, H1, I1, ry, q⟩ => thn (ha pins s1 σ H1 _ I1 q) fun ov s2 ⟨x, H2, I2, rx, a, C, dx, fs, ex, ea, c, n, l, q2⟩ => ?_) hs
  subst ex
  obtain rfl : ov = Value.ref a := rx
  exact setattr_ok I2 ea c n l ry fun s3 I3 => ⟨σ, _, I3, q2⟩
theorem ps_fldaug {op : Operator} {rd : V → V → Hp → VK → Prop} (ha : PE X o ta) (hv : PE X value tv) (hop : InOp X op rd) : PS X (.AugAssign (.Attribute o f tpos) op value pos) (sFldAug X.K ta tv rd f) := by
  intro pins s σ H D I h
  refine wpAny_AugAssign_AttributeAny (thn (ha pins s σ H _ I h) fun ov s1 ⟨x, H1, I1, rx, a, C, dx, fs, v, ex, ea, c, n, l, q⟩ => ?_)
  subst ex
  obtain rfl : ov = Value.ref a := rx
  refine getattr_ok I1 ea c n l fun u s2 I2 ru => thn (hv pins s2 σ H1 _ I2 q) fun w3 s3 ⟨y, H2, I3, ry, q3⟩ => thn (hop pins s3 σ H2 v y u w3 _ I3 ru ry q3) fun w4 s4 ⟨z, H3, I4, rz, dx', fs', ea', l', q4⟩ => ?_
  exact setattr_ok I4 ea' c n l' rz fun s5 I5 => ⟨σ, _, I5, q4⟩
def rAdd : V → V → Hp → VK → Prop := fun x y H Q => ∃ i j, x = .int i ∧ y = .int j ∧ Q (.int (i + j)) H
theorem in_add : InOp X .Add rAdd := by
  rintro pins s σ H x y u v Q I rx ry ⟨i, j, rfl, rfl, q⟩
  obtain ⟨t, rfl⟩ := (show ∃ t, u = Value.int i t from rx)
  obtain ⟨t', rfl⟩ := (show ∃ t', v = Value.int j t' from ry)
  exact PyProof.Rows.iadd_int ⟨.int (i + j), H, I.tok _, ⟨_, rfl⟩, q⟩
end
section
variable {X : Cx} {pins : List (Addr × Obj)} {σ : St} {H : Hp} {s : Shared} {A : Around} {E : Value → Shared → Prop} {Q : Value → Shared → Prop} {c : Value} {b : Bool}
end
end L2
namespace L2
open PySem PySem.Spec PyProof.Rows
structure Room (k : Nat) (A : Around) : Prop where
  hd : A.handled = none
  dp : A.depth + 3 * k + 5 < recursionLimit
  un : A.units + 16 * k + 200 < cLine
theorem Room.mono {j k : Nat} {A : Around} (r : Room k A) (h : j ≤ k) : Room j A := ⟨r.hd, by have := r.dp; omega, by have := r.un; omega⟩
theorem Room.deeper {k : Nat} {A : Around} (r : Room (k + 1) A) (env : Env) : Room k (A.deeper env) :=
  ⟨r.hd, by have := r.dp; show A.depth + 1 + 3 * k + 5 < _; omega, by have := r.un; show A.units + 3 + 16 * k + 200 < _; omega⟩
theorem make_depth {A : Around} {C : Addr} {us : List Value} {kw : List (Str × Value)} : (A.under (.builtin "type.__call__" ⟨.ref C :: us, kw⟩)).depth = A.depth + 1 := by
  first | rfl | simp [Around.under, Code.weight, Code.isCreation, Code.isGuard, Code.isCaller, Code.frames, Code.isFrame, guardIds]
theorem make_units {A : Around} {C : Addr} {us : List Value} {kw : List (Str × Value)} : (A.under (.builtin "type.__call__" ⟨.ref C :: us, kw⟩)).units = A.units + 1 := by
  first | rfl | simp [Around.under, Code.cUnits, Code.frames, Code.isFrame]
theorem Room.make {k : Nat} {A : Around} (r : Room (k + 1) A) (C : Addr) (us : List Value) (kw : List (Str × Value)) : Room k (A.under (.builtin "type.__call__" ⟨.ref C :: us, kw⟩)) :=
  ⟨r.hd, by have := r.dp; rw [make_depth]; omega, by have := r.un; rw [make_units]; omega⟩
theorem Room.depth {k : Nat} {A : Around} (r : Room k A) : A.depth < recursionLimit := by have := r.dp; omega
theorem Room.units {k : Nat} {A : Around} (r : Room k A) : A.units + 64 < cLine := by have := r.un; omega
def tNil : TA := fun _ H Q => Q [] H
def tCons (ta : TE) (tr : TA) : TA := fun σ H Q => ta σ H fun x H1 => tr σ H1 fun xs H2 => Q (x :: xs) H2
section
variable {X : Cx} {e : Expr} {es : List Expr} {te : TE} {t : TA} {pos : Pos}
theorem pa_nil : PA X [] tNil := fun _ _ _ _ H Q I h => Calls.spliced_nil ⟨[], H, I, .nil, h⟩
theorem pa_cons (ha : PE X e te) (hr : PA X es t) (hs : starEach (e :: es) X.env = (false, eval e X.env) :: starEach es X.env := by rfl) : PA X (e :: es) (tCons te t) := by
  intro pos pins s σ H Q I h
  rw [hs]
  show wpAny _ _ (spliced ((false, eval e X.env) :: backTo pos (starEach es X.env))) _ _ s
  refine Calls.spliced_cons (thn (ha pins s σ H _ I h) fun u s1 ⟨x, H1, I1, r1, q1⟩ => ?_)
  exact thn (hr pos pins s1 σ H1 _ I1 q1) fun us s2 ⟨xs, H2, I2, r2, q2⟩ => ⟨x :: xs, H2, I2, .cons r1 r2, q2⟩
def tTup (t : TA) : TE := fun σ H Q => t σ H fun xs H1 => xs.length ≤ sizeLine ∧ ∀ p, H1 p = none → Q (.ref p) (upd H1 p (.tup xs))
def tLst (t : TA) : TE := fun σ H Q => t σ H fun xs H1 => xs.length ≤ sizeLine ∧ ∀ p, H1 p = none → Q (.ref p) (upd H1 p (.lst xs))
theorem pe_tup {x1} (h : PA X es t) : PE X (.Tuple es x1 pos) (tTup t) := by
  intro pins s σ H Q I hq
  refine wpAny_Tuple_spliced (thn (h pos pins s σ H _ I hq) fun us s1 ⟨xs, H1, I1, r, z, q⟩ => ⟨by rw [← r.length]; exact z, ?_⟩)
  have hf : H1 s1.heap.objs.size = none := I1.hok.fresh (Nat.le_refl _)
  refine ⟨.ref s1.heap.objs.size, upd H1 s1.heap.objs.size (.tup xs), I1.laid (t' := s1.toks) (fun b u e => Heap.get?_push_of_some _ e) (Nat.le_refl _) ?_, rfl, q _ hf⟩
  exact ⟨z, us, r, ⟨_, Heap.get?_push_size _ rfl, rfl, _, rfl⟩⟩
theorem pe_lst (h : PA X es t) : PE X (.List es pos) (tLst t) := by
  intro pins s σ H Q I hq
  refine wpAny_List_spliced (thn (h pos pins s σ H _ I hq) fun us s1 ⟨xs, H1, I1, r, z, q⟩ => ⟨by rw [← r.length]; exact z, ?_⟩)
  have hf : H1 s1.heap.objs.size = none := I1.hok.fresh (Nat.le_refl _)
  refine ⟨.ref s1.heap.objs.size, upd H1 s1.heap.objs.size (.lst xs), I1.laid (t' := s1.toks) (fun b u e => Heap.get?_push_of_some _ e) (Nat.le_refl _) ?_, rfl, q _ hf⟩
  exact ⟨z, us, 0, r, Heap.get?_push_size _ rfl⟩
end
abbrev Sp := List V → Hp → VK → XK → Prop
abbrev CXT := List Env → Hp → Shared → XK → Value → Shared → Prop
structure Env0 (P : Program) (w : World) (K : PySem.W.Frag) (mg : Str → Option Value) (base : Heap) (A : Around) (outer : List Env) (s : Shared) (H : Hp) : Prop where
  frames : A.frames = some outer
  mod : Mod K mg base
  bs : ∀ b o, base.get? b = some o → s.heap.get? b = some o ∧ H b = none
  bsz : base.objs.size ≤ s.heap.objs.size
  funs : s.heap.FunFrames base outer
  frf : ∀ b ∈ frs outer, H b = none
  hok : HOk P w H s.heap
  bare : AllBare s.gens
def CE (outer : List Env) (P : Program) (w : World) (H : Hp) (s : Shared) (Q : VK) (u : Value) (s' : Shared) : Prop :=
  ∃ v H', s'.os = s.os ∧ AllBare s'.gens ∧ Un (frs outer) [] H H' s.heap s'.heap ∧ HOk P w H' s'.heap ∧ RelV v u ∧ Q v H'
def CR (CX : CXT) (outer : List Env) (P : Program) (w : World) (H : Hp) (s : Shared) (Q : VK) (E : XK) (r : Result) (s' : Shared) : Prop :=
  match r with
  | .ok (.ret u) => CE outer P w H s Q u s'
  | .ok _ => False
  | .error e => CX outer H s E e s'
structure FnOk (P : Program) (w : World) (K : PySem.W.Frag) (mg : Str → Option Value) (base : Heap) (CX : CXT) (k : Nat) (f : Addr) (fd : FuncData) (ps : List Str) (sp : Sp) : Prop where
  len : ∀ vs H Q E, sp vs H Q E → vs.length = ps.length
  run : ∀ (A : Around) (outer : List Env) (s : Shared) (H : Hp) (args : Args) (us : List Value) (vs : List V) (Q : VK) (E : XK), Room k A → Env0 P w K mg base A outer s H → BindsTo s fd args (ps.zip us) → Vals vs us → sp vs H Q E →
    codeAny (model P w) A (.call (.ref f) args) (CR CX outer P w H s Q E) s
theorem Env0.make {P : Program} {w : World} {K : PySem.W.Frag} {mg : Str → Option Value} {base : Heap} {A : Around} {outer : List Env} {s : Shared} {H : Hp} (e : Env0 P w K mg base A outer s H) (C : Addr) (us : List Value) (kw : List (Str × Value)) :
    Env0 P w K mg base (A.under (.builtin "type.__call__" ⟨.ref C :: us, kw⟩)) outer s H := ⟨by first | exact e.frames | (simpa [Around.under, Code.envs, Code.isFrame, pushEnvs] using e.frames), e.mod, e.bs, e.bsz, e.funs, e.frf, e.hok, e.bare⟩
section
variable {X : Cx} {pins : List (Addr × Obj)} {σ : St} {H : Hp} {s s' : Shared}
theorem Inv.env0 (I : Inv X pins σ H s) : Env0 X.prog X.w X.K X.mg X.base X.A X.stack s H :=
  ⟨I.ok.frames, I.ok.mod, I.bs, Nat.le_trans I.ok.bsz I.sz, I.stack, I.stkFree, I.hok, I.bare⟩
theorem Inv.after {Q : VK} {u : Value} (I : Inv X pins σ H s) (h : CE X.stack X.prog X.w H s Q u s') : EP X pins σ Q u s' := by
  obtain ⟨v, H', os, bare, un, hok, r, q⟩ := h
  obtain ⟨hh, g, d, t, os'⟩ := s'
  obtain rfl : os' = s.os := os
  exact ⟨v, H', I.call (h' := hh) (g' := g) (d' := d) (t' := t) (ch := []) un hok bare (fun b z => absurd z (by simp)), r, q⟩
end
def tCall (sp : Sp) (dvs : List V) (E : XK) (t : TA) : TE := fun σ H Q => t σ H fun vs H1 => sp (vs ++ dvs) H1 Q E
def tMeth (C : Addr) (m : Str) (sp : Sp) (dvs : List V) (E : XK) (ta : TE) (t : TA) : TE := fun σ H Q => ta σ H fun x H1 => ∃ a dx fs, x = .ref a ∧ H1 a = some (.ins C dx fs) ∧ fs.lookup m = none ∧
  t σ H1 fun vs H2 => sp (x :: (vs ++ dvs)) H2 Q E
def tMake (C : Addr) (sp : Sp) (dvs : List V) (E : XK) (t : TA) : TE := fun σ H Q => t σ H fun vs H1 => ∀ x dx, H1 x = none → H1 dx = none → dx ≠ x →
  sp (.ref x :: (vs ++ dvs)) (upd (upd H1 dx (.own x)) x (.ins C dx [])) (fun v H2 => v = .non ∧ Q (.ref x) H2) E
def Binds (K : PySem.W.Frag) (fd : FuncData) (ps : List Str) (ds : List Value) : Prop :=
  ∀ (s : Shared) (us : List Value), K.In s.heap → (us ++ ds).length = ps.length → BindsTo s fd ⟨us, []⟩ (ps.zip (us ++ ds))
theorem Binds.all {K : PySem.W.Frag} {fd : FuncData} {ps : List Str} (h : ∀ us : List Value, us.length = ps.length → bindArgs fd ⟨us, []⟩ = pure (ps.zip us)) : Binds K fd ps [] := fun s us _ hl => by
  rw [List.append_nil] at hl ⊢
  exact .of_eq (h us hl)
def Passes (CX : CXT) (X : Cx) (E : XK) : Prop := ∀ (pins : List (Addr × Obj)) (σ : St) (H : Hp) (s : Shared) (e : Value) (s' : Shared), Inv X pins σ H s → CX X.stack H s E e s' → X.xe e s'
section
variable {X : Cx} {CX : CXT} {k : Nat} {f C : Addr} {fd : FuncData} {ps : List Str} {sp : Sp} {dvs : List V} {ds : List Value} {E : XK} {x m : Str} {p pos apos : Pos} {e o : Expr} {es : List Expr} {ta : TE} {t : TA}
theorem run_fn {pins : List (Addr × Obj)} {σ : St} {H : Hp} {s : Shared} {Q : VK} {us : List Value} {vs : List V} (F : FnOk X.prog X.w X.K X.mg X.base CX k f fd ps sp) (hr : Room k X.A) (hb : Binds X.K fd ps ds) (hd : Vals dvs ds) (hx : Passes CX X E)
    (I : Inv X pins σ H s) (r : Vals vs us) (h : sp (vs ++ dvs) H Q E) : wpAny (model X.prog X.w) X.A (call (.ref f) us) (EP X pins σ Q) X.xe s := by
  have r2 : Vals (vs ++ dvs) (us ++ ds) := r.append hd
  have hl : (us ++ ds).length = ps.length := by rw [← r2.length]; exact F.len _ _ _ _ h
  refine wpAny_call (codeAny_mono (F.run X.A X.stack s H ⟨us, []⟩ (us ++ ds) (vs ++ dvs) Q E hr I.env0 (hb s us I.kIn hl) r2 h) fun r s' hq => ?_)
  cases r with
  | error e => exact hx pins σ H s e s' I hq
  | ok fl =>
    cases fl with
    | ret u => exact I.after hq
    | next => exact False.elim hq
    | brk => exact False.elim hq
    | cont => exact False.elim hq
theorem pe_call (F : FnOk X.prog X.w X.K X.mg X.base CX k f fd ps sp) (hr : Room k X.A) (hg : Gl X x) (hm : X.mg x = some (.ref f)) (hk : PySem.W.keepIn X.K (.ref f) = true) (hb : Binds X.K fd ps ds) (hd : Vals dvs ds) (hx : Passes CX X E)
    (ha : PA X (e :: es) t) (hdb : (x == ("__debug__" : Str)) = false := by decide) (he : starEach (e :: es) X.env = (false, eval e X.env) :: starEach es X.env := by rfl) (hpl : (backTo pos (starEach es X.env)).any (·.1) = false := by rfl) :
    PE X (.Call (.Name x p) (e :: es) [] pos) (tCall sp dvs E t) := by
  intro pins s σ H Q I h
  refine wpAny_Call_Name_kw (ld_glob I hg hm ?_ hdb)
  refine PySem.W.callWith_K (h₀ := X.base) I.ok.mod.kin hk (thn (ha pos pins s σ H _ I h) fun us s1 ⟨vs, H1, I1, r, q⟩ => ⟨I1.kIn, ?_⟩) he hpl
  exact run_fn F hr hb hd hx I1 r q
theorem pe_meth {pl : Sem Bool} (he : PE X o ta) (c : Cls X.K C) (hm : Meth X.K C m f) (F : FnOk X.prog X.w X.K X.mg X.base CX k f fd ps sp) (hr : Room k X.A) (hb : Binds X.K fd ps ds) (hd : Vals dvs ds) (hx : Passes CX X E) (ha : PA X (e :: es) t)
    (hst : starEach (e :: es) X.env = (false, eval e X.env) :: starEach es X.env := by rfl) (hpl : (backTo pos (starEach es X.env)).any (·.1) = false := by rfl)
    (ht : eval (.Call (.Attribute o m apos) (e :: es) [] pos) X.env = (do
      let ov ← eval o X.env
      standAt apos.atName
      let (f, first) ← holding [ov] (getMethod ov m pl)
      callWith pos f first (backTo pos (starEach (e :: es) X.env)) (backToKw pos (keywordEach [] X.env))) := by rfl) :
    PE X (.Call (.Attribute o m apos) (e :: es) [] pos) (tMeth C m sp dvs E ta t) := by
  intro pins s σ H Q I h
  refine PySem.W.methodCall_KW (pl := pl) (thn (he pins s σ H _ I h) fun u s1 ⟨x, H1, I1, rx, a, dx, fs, ex, ea, l, q⟩ => ?_) ht
  subst ex
  obtain rfl : u = Value.ref a := rx
  refine getmeth_ok I1 ea c hm l ?_
  refine PySem.W.callWith_K (first := [.ref a]) (h₀ := X.base) I.ok.mod.kin hm.kp (thn (ha pos pins s1 σ H1 _ I1 q) fun us s2 ⟨vs, H2, I2, r, q2⟩ => ⟨I2.kIn, ?_⟩) hst hpl
  exact run_fn (us := .ref a :: us) (vs := .ref a :: vs) F hr hb hd hx I2 (.cons rfl r) q2
theorem pe_meth0 {pl : Sem Bool} (he : PE X o ta) (c : Cls X.K C) (hm : Meth X.K C m f) (F : FnOk X.prog X.w X.K X.mg X.base CX k f fd ps sp) (hr : Room k X.A) (hb : Binds X.K fd ps ds) (hd : Vals dvs ds) (hx : Passes CX X E)
    (ht : eval (.Call (.Attribute o m apos) [] [] pos) X.env = (do
      let ov ← eval o X.env
      standAt apos.atName
      let (f, first) ← holding [ov] (getMethod ov m pl)
      callWith pos f first (backTo pos (starEach [] X.env)) (backToKw pos (keywordEach [] X.env))) := by rfl) :
    PE X (.Call (.Attribute o m apos) [] [] pos) (tMeth C m sp dvs E ta tNil) := by
  intro pins s σ H Q I h
  refine PySem.W.methodCall_KW (pl := pl) (thn (he pins s σ H _ I h) fun u s1 ⟨x, H1, I1, rx, a, dx, fs, ex, ea, l, q⟩ => ?_) ht
  subst ex
  obtain rfl : u = Value.ref a := rx
  refine getmeth_ok I1 ea c hm l ?_
  exact PySem.W.callWith_K0 (first := [.ref a]) I1.kIn hm.kp (run_fn (us := [.ref a]) (vs := [.ref a]) F hr hb hd hx I1 (.cons rfl .nil) q)
structure Mk (K : PySem.W.Frag) (C f : Addr) : Prop where
  makes : PySem.W.makesIn K C = true
  init : PySem.W.findIn K (.ref C) "__init__" = some (some (.ref f))
  fn : PySem.W.isFn K (.ref f) = true
  kp : PySem.W.keepIn K (.ref C) = true
theorem run_make {pins : List (Addr × Obj)} {σ : St} {H : Hp} {s : Shared} {Q : VK} {us : List Value} {vs : List V} (M : Mk X.K C f) (F : FnOk X.prog X.w X.K X.mg X.base CX k f fd ps sp) (hr : Room (k + 1) X.A) (hb : Binds X.K fd ps ds) (hd : Vals dvs ds)
    (hx : Passes CX X E) (I : Inv X pins σ H s) (r : Vals vs us)
    (h : ∀ x dx, H x = none → H dx = none → dx ≠ x → sp (.ref x :: (vs ++ dvs)) (upd (upd H dx (.own x)) x (.ins C dx [])) (fun v H2 => v = .non ∧ Q (.ref x) H2) E) :
    wpAny (model X.prog X.w) X.A (call (.ref C) us) (EP X pins σ Q) X.xe s := by
  have hq := h (s.heap.objs.size + 1) s.heap.objs.size (I.hok.fresh (Nat.le_succ _)) (I.hok.fresh (Nat.le_refl _)) (Nat.ne_of_lt (Nat.lt_succ_self _))
  have I2 := Inv.made (C := C) I
  have r2 : Vals (V.ref (s.heap.objs.size + 1) :: (vs ++ dvs)) (Value.ref (s.heap.objs.size + 1) :: (us ++ ds)) := .cons rfl (r.append hd)
  have hl : (Value.ref (s.heap.objs.size + 1) :: us ++ ds).length = ps.length := by
    have e := r2.length
    rw [F.len _ _ _ _ hq] at e
    exact e.symm
  refine wpAny_call (make_map (f := f) I.kIn M.makes M.init (beq_iff_eq.mp M.fn) (codeAny_mono (F.run _ X.stack _ _ ⟨Value.ref (s.heap.objs.size + 1) :: us, []⟩ (Value.ref (s.heap.objs.size + 1) :: (us ++ ds)) _ _ E (hr.make C us [])
    (I2.env0.make C us []) (hb _ (Value.ref (s.heap.objs.size + 1) :: us) I2.kIn hl) r2 hq) fun r s' hq' => ?_))
  cases r with
  | error e => exact hx pins σ _ _ e s' I2 hq'
  | ok fl =>
    cases fl with
    | ret u =>
      obtain ⟨v, H', I3, rv, ev, q3⟩ := I2.after hq'
      subst ev
      exact ⟨rv, ⟨V.ref (s.heap.objs.size + 1), H', I3, rfl, q3⟩⟩
    | next => exact False.elim hq'
    | brk => exact False.elim hq'
    | cont => exact False.elim hq'
theorem pe_make0 (M : Mk X.K C f) (F : FnOk X.prog X.w X.K X.mg X.base CX k f fd ps sp) (hr : Room (k + 1) X.A) (hg : Gl X x) (hm : X.mg x = some (.ref C)) (hb : Binds X.K fd ps ds) (hd : Vals dvs ds) (hx : Passes CX X E)
    (hdb : (x == ("__debug__" : Str)) = false := by decide) : PE X (.Call (.Name x p) [] [] pos) (tMake C sp dvs E tNil) := by
  intro pins s σ H Q I h
  refine wpAny_Call_Name_kw (ld_glob I hg hm ?_ hdb)
  exact PySem.W.callWith_K0 I.kIn M.kp (run_make (us := []) M F hr hb hd hx I .nil h)
end
section
variable {X : Cx} {CX : CXT} {k : Nat} {f C : Addr} {fd : FuncData} {ps ks : List Str} {sp : Sp} {E : XK} {x m : Str} {p pos apos kpos : Pos} {e o : Expr} {es : List Expr} {kws : List Keyword} {te ta : TE} {t tk : TA} {nm : Option Str}
variable {g : List Value → List Value → List Value} {gV : List V → List V → List V}
end
structure FnScope (N P : List Str) (sc : Scope) : Prop where
  kind : sc.kind = .function
  co : sc.isCoroutine = false
  gen : sc.isGenerator = false
  nd : N.Nodup
  pre : N.take P.length = P
  par : ∀ x ∈ P, sc.names.lookup x = some .local ∨ sc.names.lookup x = some .cell
  nofree : ∀ y ∈ sc.names, y.2 ≠ .free
theorem bindL_out {kindOf : Str → Option NameKind} {x : Str} : ∀ {binds : List (Str × Value)} {m : Str → Option Value}, (∀ v, (x, v) ∉ binds) → bindL kindOf binds m x = m x
  | [], _, _ => rfl
  | (n, v) :: r, m, h => by
    unfold bindL
    rw [bindL_out fun w hw => h w (List.mem_cons_of_mem _ hw)]
    split
    · have : x ≠ n := by rintro rfl; exact h v List.mem_cons_self
      simp [this]
    · rfl
theorem bindC_out {kindOf : Str → Option NameKind} {x : Str} : ∀ {binds : List (Str × Value)} {m : Str → Option Value}, (∀ v, (x, v) ∉ binds) → bindC kindOf binds m x = m x
  | [], _, _ => rfl
  | (n, v) :: r, m, h => by
    unfold bindC
    rw [bindC_out fun w hw => h w (List.mem_cons_of_mem _ hw)]
    split
    · rfl
    · have : x ≠ n := by rintro rfl; exact h v List.mem_cons_self
      simp [this]
theorem bindL_get {kindOf : Str → Option NameKind} {x : Str} {v : Value} : ∀ {P : List Str} {vs : List Value} {i : Nat} {m : Str → Option Value}, P.Nodup → P[i]? = some x → vs[i]? = some v → kindOf x = some .local →
    bindL kindOf (P.zip vs) m x = some v
  | [], _, _, _, _, h, _, _ => by simp at h
  | _ :: _, [], _, _, _, _, h, _ => by simp at h
  | p :: P, w :: vs, 0, m, nd, h1, h2, hk => by
    simp at h1 h2; subst h1; subst h2
    show bindL kindOf ((p, w) :: P.zip vs) m p = _
    unfold bindL
    rw [bindL_out fun v hv => (List.nodup_cons.mp nd).1 (List.of_mem_zip hv).1, if_pos hk]
    simp
  | p :: P, w :: vs, i + 1, m, nd, h1, h2, hk => by
    show bindL kindOf ((p, w) :: P.zip vs) m x = _
    unfold bindL
    exact bindL_get (i := i) (List.nodup_cons.mp nd).2 (by simpa using h1) (by simpa using h2) hk
theorem bindC_get {kindOf : Str → Option NameKind} {x : Str} {v : Value} : ∀ {P : List Str} {vs : List Value} {i : Nat} {m : Str → Option Value}, P.Nodup → P[i]? = some x → vs[i]? = some v → kindOf x ≠ some .local →
    bindC kindOf (P.zip vs) m x = some v
  | [], _, _, _, _, h, _, _ => by simp at h
  | _ :: _, [], _, _, _, _, h, _ => by simp at h
  | p :: P, w :: vs, 0, m, nd, h1, h2, hk => by
    simp at h1 h2; subst h1; subst h2
    show bindC kindOf ((p, w) :: P.zip vs) m p = _
    unfold bindC
    rw [bindC_out fun v hv => (List.nodup_cons.mp nd).1 (List.of_mem_zip hv).1, if_neg hk]
    simp
  | p :: P, w :: vs, i + 1, m, nd, h1, h2, hk => by
    show bindC kindOf ((p, w) :: P.zip vs) m x = _
    unfold bindC
    exact bindC_get (i := i) (List.nodup_cons.mp nd).2 (by simpa using h1) (by simpa using h2) hk
def start (N : List Str) (vs : List V) : St := vs.map some ++ List.replicate (N.length - vs.length) none
def cxOf (CX : CXT) (P : Program) (w : World) (K : PySem.W.Frag) (mg : Str → Option Value) (base : Heap) (N : List Str) (qual : Str) (scope : Scope) (f : Addr) (cd : Value) (A : Around) (outer : List Env) (s : Shared) (H : Hp) (E : XK) : Cx where
  prog := P
  w := w
  K := K
  mg := mg
  base := base
  A := A.deeper (envOfC qual scope s.heap.objs.size f cd)
  N := N
  s_0 := s
  H_0 := H
  env := envOfC qual scope s.heap.objs.size f cd
  outer := outer
  stack := envOfC qual scope s.heap.objs.size f cd :: outer
  ex := []
  calm := true
  fn := fun _ => true
  pn := []
  xe := fun e s' => wpAny (model P w) (A.deeper (envOfC qual scope s.heap.objs.size f cd)) (leaving (envOfC qual scope s.heap.objs.size f cd) e) (fun _ s'' => CX outer H s E e s'') (fun e' s'' => CX outer H s E e' s'') s'
theorem cell_has {sc : Scope} {n : Nat} {x : Str} (h : sc.names.lookup x = some .cell) : ∃ c, (cellsFrom n sc.names []).lookup x = some c := by
  have q := PySem.W.cellsFrom_some sc.names n [] (.inl h)
  exact Option.isSome_iff_exists.mp q
theorem inv_start {CX : CXT} {P : Program} {w : World} {K : PySem.W.Frag} {mg : Str → Option Value} {base : Heap} {N ps : List Str} {qual : Str} {scope : Scope} {f : Addr} {cd : Value} {A : Around} {outer : List Env} {s s1 : Shared} {H : Hp} {E : XK} {us : List Value} {vs : List V}
    (S : FnScope N ps scope) (hd : A.handled = none) (e0 : Env0 P w K mg base A outer s H) (hl : vs.length = ps.length) (r : Vals vs us)
    (x : InCallC s s.heap.objs.size (bindL (envOfC qual scope s.heap.objs.size f cd).kindOf (ps.zip us) fun _ => none) (cellsFrom (s.heap.objs.size + 1) scope.names []) (bindC (envOfC qual scope s.heap.objs.size f cd).kindOf (ps.zip us) fun _ => none) s1) :
    Inv (cxOf CX P w K mg base N qual scope f cd A outer s H E) [] (start N vs) H s1 := by
  have hpl : ps.length ≤ N.length := by have := congrArg List.length S.pre; rw [List.length_take] at this; omega
  obtain ⟨h1, tk, rfl, hk⟩ := x.done
  have noA : ∀ b : Addr, b ∉ (cxOf CX P w K mg base N qual scope f cd A outer s H E).ex := fun b z => absurd (show b ∈ ([] : List Addr) from z) (by simp)
  refine ⟨⟨e0.mod, S.kind, rfl, rfl, Nat.le_refl _, fun y z c h1 h2 => ?_, fun y hy => ?_, fun y c _ h => ?_, fun _ => hd, Around.frames_deeper e0.frames, .inr ⟨rfl, rfl⟩, fun b z => absurd z (noA b), e0.bs, e0.bsz, fun b _ _ => noA b, fun b z => absurd z (noA b), e0.funs, e0.frf⟩,
    rfl, e0.bare, Un.kept hk, ⟨_, x.toInCall.ns, fun i y v h1 h2 h3 => ?_⟩, fun y c h => ⟨_, x.cell y c h⟩, e0.hok.fresh (Nat.le_refl _), fun y c h => ?_, fun p hp => absurd (show p ∈ ([] : List (Addr × Obj)) from hp) (by simp), e0.hok.kept hk, ?_⟩
  · exact name_of_addr x.apart (PySem.mem_of_lookup h1) (PySem.mem_of_lookup h2)
  · have hy : scope.names.lookup y = some .cell ∨ scope.names.lookup y = some .free := hy
    rcases hy with hy | hy
    · exact cell_has hy
    · exact absurd rfl (S.nofree _ (PySem.mem_of_lookup hy))
  · exact Nat.le_of_lt (x.above y c (PySem.mem_of_lookup h))
  · have hi : i < vs.length := by
      unfold start at h2
      by_cases hi : i < vs.length
      · exact hi
      · rw [List.getElem?_append_right (by simpa using hi)] at h2
        rw [List.getElem?_replicate] at h2
        split at h2 <;> cases h2
    have ha : vs[i]? = some v := by
      unfold start at h2
      rw [List.getElem?_append_left (by simpa using hi), List.getElem?_map] at h2
      cases e : vs[i]? with
      | none => rw [e] at h2; cases h2
      | some a => rw [e] at h2; cases h2; rfl
    obtain ⟨u, hu, rv⟩ := r.get ha
    have hp : ps[i]? = some y := by
      rw [← S.pre, List.getElem?_take_of_lt (by omega)]; exact h1
    have ndP : ps.Nodup := by rw [← S.pre]; exact S.nd.sublist (List.take_sublist _ _)
    refine ⟨u, rv, ?_⟩
    rcases S.par y (List.mem_of_getElem? hp) with k | k
    · exact .inl ⟨k, bindL_get ndP hp hu k⟩
    · obtain ⟨c, e⟩ := cell_has (n := s.heap.objs.size + 1) k
      refine .inr ⟨.inl k, c, e, ?_⟩
      have q := x.cell y c e
      rw [bindC_get ndP hp hu (by show scope.names.lookup y ≠ _; rw [k]; decide)] at q
      exact q
  · exact e0.hok.fresh (Nat.le_of_lt (x.above y c (PySem.mem_of_lookup h)))
  · unfold start
    show _ = N.length
    rw [List.length_append, List.length_map, List.length_replicate]
    omega
theorem fn_of {CX : CXT} {P : Program} {w : World} {K : PySem.W.Frag} {mg : Str → Option Value} {base : Heap} {k : Nat} {f : Addr} {name qual : Str} {params : Arguments} {body : List Stmt} {scope : Scope} {dV kV doc pm cdv ct oc : Value} {an od : Option Addr}
    {osl : Array (Option Value)} {N ps : List Str} {sp : Sp} (lk : K.lookup f = some ⟨oc, od, .func (PySem.W.fnOf name qual params body scope dV kV doc pm an cdv ct), osl⟩) (hcd : PySem.W.codeIn K cdv qual = true) (S : FnScope N ps scope)
    (len : ∀ vs H Q E, sp vs H Q E → vs.length = ps.length)
    (hbody : ∀ (A : Around) (outer : List Env) (s : Shared) (H : Hp) (vs : List V) (Q : VK) (E : XK), Room k (A.deeper (envOfC qual scope s.heap.objs.size f cdv)) → sp vs H Q E →
      ∃ t, PSs (cxOf CX P w K mg base N qual scope f cdv A outer s H E) body t ∧ t { nx := fun _ H' => Q .non H', rt := Q } (start N vs) H) :
    FnOk P w K mg base CX (k + 1) f (PySem.W.fnOf name qual params body scope dV kV doc pm an cdv ct) ps sp := by
  refine ⟨len, fun A outer s H args us vs Q E hr e0 hb r hsp => ?_⟩
  have hl := len _ _ _ _ hsp
  have KX : K.In s.heap := e0.mod.kin.keeps fun b o e => (e0.bs b o e).1
  have lim : s.heap.NoLimit := e0.mod.nolimit.keeps fun b o e => (e0.bs b o e).1
  have hkind : ∀ y ∈ ps.zip us, scope.names.lookup y.1 = some .local ∨ (scope.names.lookup y.1 = some .cell ∧ ((cellsFrom (s.heap.objs.size + 1) scope.names []).lookup y.1).isSome = true) := fun ⟨n, v⟩ hy => by
    rcases S.par n (List.of_mem_zip hy).1 with q | q
    · exact .inl q
    · exact .inr ⟨q, PySem.W.cellsFrom_some _ _ _ (.inl q)⟩
  refine codeAny_call_function hr.depth (KX _ _ lk) rfl S.co S.gen rfl (PySem.W.codeRec_of KX hcd) (hb _ _ _ _ ?_)
  refine wpAny_newFunctionEnv_cells S.kind hkind fun env he s1 x => ?_
  subst he
  refine ⟨lim.keeps x.toInCall.keep, codeAny_func ?_⟩
  obtain ⟨t, ht, hq⟩ := hbody A outer s H vs Q E (hr.deeper _) hsp
  have I : Inv (cxOf CX P w K mg base N qual scope f cdv A outer s H E) [] (start N vs) H s1 := inv_start S hr.hd e0 hl r x
  refine wpAny_mono (ht [] s1 (start N vs) H _ I hq) (fun fl s' hs => ?_) fun e s' hs => hs
  have fin : ∀ {σ' : St} {H' : Hp} {v : V} {u : Value}, Inv (cxOf CX P w K mg base N qual scope f cdv A outer s H E) [] σ' H' s' → RelV v u → Q v H' → CE outer P w H s Q u s' :=
    fun {σ' H' v u} J rv q => ⟨v, H', J.os, J.bare, J.base, J.hok, rv, q⟩
  cases fl with
  | ret u =>
    obtain ⟨v, σ', H', J, rv, q⟩ := hs
    exact fin J rv q
  | next =>
    obtain ⟨σ', H', J, q⟩ := hs
    exact fin (v := V.non) (u := Value.none) J rfl q
  | brk =>
    obtain ⟨_, _, _, q⟩ := hs
    exact False.elim q
  | cont =>
    obtain ⟨_, _, _, q⟩ := hs
    exact False.elim q
end L2
namespace L2
open PySem PySem.Spec PyProof.Rows
section
variable {X : Cx} {x : Str} {p pos : Pos} {e : Expr} {es : List Expr} {t : TA} {id T : String} {r : List V → Hp → VK → Prop}
def tCB (r : List V → Hp → VK → Prop) (t : TA) : TE := fun σ H Q => t σ H fun vs H1 => r vs H1 Q
theorem pe_callB (hc : CallR X (.builtin id) r) (hg : Gl X x) (hm : X.mg x = none) (hv : bootBuiltins x = some (.builtin id)) (ha : PA X (e :: es) t) (hn : x ≠ "__name__" := by decide) (hdb : (x == ("__debug__" : Str)) = false := by decide)
    (he : starEach (e :: es) X.env = (false, eval e X.env) :: starEach es X.env := by rfl) (hpl : (backTo pos (starEach es X.env)).any (·.1) = false := by rfl) : PE X (.Call (.Name x p) (e :: es) [] pos) (tCB r t) := by
  intro pins s σ H Q I h
  refine wpAny_Call_Name_kw (ld_blt I hg hm hv ?_ hn hdb)
  exact PyProof.Rows.callWith_builtin1 (thn (ha pos pins s σ H _ I h) fun us s1 ⟨vs, H1, I1, r1, q1⟩ => hc pins s1 σ H1 vs us Q I1 r1 q1) he hpl
theorem pe_callTy (hc : CallR X (.type T) r) (hg : Gl X x) (hm : X.mg x = none) (hv : bootBuiltins x = some (.type T)) (ha : PA X (e :: es) t) (hn : x ≠ "__name__" := by decide) (hdb : (x == ("__debug__" : Str)) = false := by decide)
    (he : starEach (e :: es) X.env = (false, eval e X.env) :: starEach es X.env := by rfl) (hpl : (backTo pos (starEach es X.env)).any (·.1) = false := by rfl) : PE X (.Call (.Name x p) (e :: es) [] pos) (tCB r t) := by
  intro pins s σ H Q I h
  refine wpAny_Call_Name_kw (ld_blt I hg hm hv ?_ hn hdb)
  exact PyProof.Rows.callWith_type1 (thn (ha pos pins s σ H _ I h) fun us s1 ⟨vs, H1, I1, r1, q1⟩ => hc pins s1 σ H1 vs us Q I1 r1 q1) he hpl
end
end L2
namespace HT
open PySem PyProof.Rows
def lexLt : List Int → List Int → Bool
  | [], [] => false
  | [], _ :: _ => true
  | _ :: _, [] => false
  | x :: xs, y :: ys => if x = y then lexLt xs ys else decide (x < y)
theorem lexLt_cons (x y : Int) (xs ys : List Int) : lexLt (x :: xs) (y :: ys) = if x = y then lexLt xs ys else decide (x < y) := rfl
theorem lexLt_nil_nil : lexLt [] [] = false := rfl
theorem lexLt_nil_cons (y : Int) (ys : List Int) : lexLt [] (y :: ys) = true := rfl
theorem lexLt_cons_nil (x : Int) (xs : List Int) : lexLt (x :: xs) [] = false := rfl
theorem eqAt_int (A : Around) (s : Shared) (a : Int) (t : Tok) (c : Int) (u : Tok) : ∃ e, SeqAt.EqAt A s (.int a t) (.int c u) e ∧ (e = true ↔ a = c) :=
  ⟨(a == c), SeqAt.EqAt.int_int a t c u, by simp⟩
theorem rcLt_int (A : Around) (s : Shared) (a : Int) (t : Tok) (c : Int) (u : Tok) (prog : Program) (w : World) (E : Value → Shared → Prop) (Q : Value → Shared → Prop) (h : Q (.bool (decide (a < c))) s) :
    wpAny (model prog w) A (richCompare .Lt (.int a t) (.int c u)) Q E s :=
  (PyProof.Rows.lt_int h : wpAny (model prog w) A (compareOp .Lt (.int a t) (.int c u)) Q E s)
section
open PySem.SeqAt
open PySem.AutoSeq1 (wpAny_loadPart')
open PySem.MeetsSeq PySem.MeetsSeq2 PySem.MeetsSeq3
theorem tuple_lt_ints (l b : Addr) (items items2 : Array Value) (n n2 : Nat) (dd dd2 : Option Addr) (sl sl2 : Array (Option Value)) (ns ms : List Int) (hi : IntsAre items.toList ns) (hj : IntsAre items2.toList ms) :
    Meets (Builtin.«tuple.__lt__» ⟨[.ref l, .ref b], []⟩)
      (fun _ R s => s.heap.get? l = some { cls := .type "tuple", dict := dd, data := .seq items n, slots := sl } ∧ s.heap.get? b = some { cls := .type "tuple", dict := dd2, data := .seq items2 n2, slots := sl2 } ∧
        R (.ok (.ret (.bool (lexLt ns ms)))) s) :=
  .of_wp fun prog w A R s h => by
    obtain ⟨hp, g, d, tk, os⟩ := s; obtain ⟨hl, hb, h⟩ := h
    have f2 := AutoSeq1.sub_tuple_tuple
    have z1 : items.size = ns.length := by rw [← hi.length]; simp
    have z2 : items2.size = ms.length := by rw [← hj.length]; simp
    wp_walk using wpAny_loadPart' hl, wpAny_loadPart' hb, wpAny_forIn_list _ (fun rest b s' => b.1 = none ∧ s' = ⟨hp, g, d, tk, os⟩ ∧ ∃ (vs ws : List Value) (ns' ms' : List Int), rest = vs.zip ws ∧
      IntsAre vs ns' ∧ IntsAre ws ms' ∧ ns'.length + items2.size = ms'.length + items.size ∧ R (.ok (.ret (.bool (lexLt ns' ms')))) ⟨hp, g, d, tk, os⟩) _
    case turn =>
      rintro ⟨y, x⟩ rest b s' ⟨hb', rfl, vs, ws, ns', ms', hz, hvi, hwi, hlen, hR⟩
      cases hvi with
      | nil => rw [List.zip_nil_left] at hz; cases hz
      | cons a t hvi' =>
        cases hwi with
        | nil => rw [List.zip_nil_right] at hz; cases hz
        | cons c u hwi' =>
          rw [List.zip_cons_cons] at hz
          injection hz with hyx hrest
          injection hyx with hy hx
          subst hy hx
          rw [lexLt_cons] at hR
          simp only [List.length_cons] at hlen
          obtain ⟨e, he, hiff⟩ := eqAt_int A.in1 ⟨hp, g, d, tk, os⟩ a t c u
          refine wpAny_bind (he prog w _ _ ?_)
          cases e with
          | true =>
            rw [if_pos (hiff.mp rfl)] at hR
            wp_walk
            exact ⟨rfl, rfl, _, _, _, _, hrest, hvi', hwi', by omega, hR⟩
          | false =>
            rw [if_neg (fun q => absurd (hiff.mpr q) Bool.false_ne_true)] at hR
            have hri := rcLt_int A.in1 ⟨hp, g, d, tk, os⟩ a t c u prog w
            wp_walk using hri
            exact ⟨_, rfl, by simpa using hR⟩
    case fin =>
      rintro ⟨b1, b2⟩ s' ⟨hb', rfl, vs, ws, ns', ms', hz, hvi, hwi, hlen, hR⟩
      simp only at hb'
      subst hb'
      have hv : lexLt ns' ms' = decide (items.size < items2.size) := by
        cases hvi with
        | nil =>
          cases hwi with
          | nil =>
            simp only [List.length_nil] at hlen
            rw [lexLt_nil_nil]
            exact (decide_eq_false (by omega)).symm
          | cons c u hw =>
            simp only [List.length_nil, List.length_cons] at hlen
            rw [lexLt_nil_cons]
            exact (decide_eq_true (by omega)).symm
        | cons a t hv =>
          cases hwi with
          | nil =>
            simp only [List.length_nil, List.length_cons] at hlen
            rw [lexLt_cons_nil]
            exact (decide_eq_false (by omega)).symm
          | cons c u hw =>
            rw [List.zip_cons_cons] at hz
            cases hz
      rw [hv] at hR
      wp_walk
      exact ⟨_, rfl, by simpa [Builtin.Tuple.tupleCompareSizes] using hR⟩
    case h =>
      exact ⟨rfl, rfl, items.toList, items2.toList, ns, ms, rfl, hi, hj, by omega, h⟩
end
section
variable {prog : Program} {w : World} {A : Around} {E : Value → Shared → Prop} {s : Shared}
theorem lt_tupInts {l b : Addr} {items items2 : Array Value} {ns ms : List Int} {Q : Value → Shared → Prop} (hl : IsTup s.heap l items) (hb : IsTup s.heap b items2) (hi : IntsAre items.toList ns) (hj : IntsAre items2.toList ms)
    (hu : A.units < cLine) (h : Q (.bool (lexLt ns ms)) s) : wpAny (model prog w) A (compareOp .Lt (.ref l) (.ref b)) Q E s := by
  obtain ⟨⟨cls, dd, data, sl⟩, ho, hc, n, hd⟩ := id hl
  obtain ⟨⟨cls2, dd2, data2, sl2⟩, ho2, hc2, n2, hd2⟩ := id hb
  simp only at hc hd hc2 hd2
  subst hc hd hc2 hd2
  exact richCompare_meets_room (op := .Lt) ⟨_, ho, rfl⟩ ⟨_, ho2, rfl⟩ PySem.F.slot_tuple_lt PySem.F.entry_tuple_lt (PySem.F.args_tuple_lt_2 _ _) (tuple_lt_ints l b items items2 n n2 dd dd2 sl sl2 ns ms hi hj)
    ⟨ho, ho2, show Value.bool (lexLt ns ms) ≠ Value.notImplemented ∧ Q (.bool (lexLt ns ms)) s from ⟨(fun x => nomatch x), h⟩⟩ hu
def sIx (n d : Nat) : Option Int → Nat
  | none => d
  | some v => if v < 0 then (v + (n : Int)).toNat else min v.toNat n
theorem sIx_none (n d : Nat) : sIx n d none = d := rfl
theorem sIx_nat (n d k : Nat) : sIx n d (some (k : Int)) = min k n := by
  show (if (k : Int) < 0 then ((k : Int) + (n : Int)).toNat else min (k : Int).toNat n) = min k n
  rw [if_neg (by omega), Int.toNat_natCast]
end
end HT
namespace L2
open PySem PySem.Spec PyProof.Rows
abbrev TO := St → Hp → (Option Int → Hp → Prop) → Prop
def PO (X : Cx) (e : Option Expr) (t : TO) : Prop :=
  ∀ (pins : List (Addr × Obj)) (s : Shared) (σ : St) (H : Hp) (Q : Option Int → Hp → Prop), Inv X pins σ H s → t σ H Q →
    wpAny (model X.prog X.w) X.A (evalPart e X.env) (fun u s' => ∃ o H', Inv X pins σ H' s' ∧ IsPart u o ∧ Q o H') X.xe s
def tNoPart : TO := fun _ H Q => Q none H
def tPart (t : TE) : TO := fun σ H Q => t σ H fun x H1 => ∃ i, x = .int i ∧ Q (some i) H1
theorem intsAre_of {ns : List Int} : ∀ {us : List Value}, Vals (ns.map V.int) us → IntsAre us ns := by
  induction ns with
  | nil => intro us r; rw [List.map_nil] at r; cases r; exact .nil
  | cons n ns ih =>
    intro us r
    rw [List.map_cons] at r
    cases r with
    | cons r1 r2 =>
      obtain ⟨t, e⟩ := r1
      subst e
      exact .cons n t (ih r2)
section
variable {X : Cx} {e : Expr} {te : TE} {lo hi : Option Expr} {tl th : TO} {pos p2 : Pos}
theorem po_none : PO X none tNoPart := by
  intro pins s σ H Q I h
  rw [evalPart_none]
  exact wpAny_pure ⟨none, H, I, .none, h⟩
theorem po_some (h : PE X e te) : PO X (some e) (tPart te) := by
  intro pins s σ H Q I hw
  rw [evalPart_some]
  refine thn (h pins s σ H _ I hw) fun u s1 ⟨x, H1, I1, r1, q1⟩ => ?_
  obtain ⟨i, rfl, q⟩ := q1
  obtain ⟨t, rfl⟩ := r1
  exact ⟨some i, H1, I1, .int i t, q⟩
def SlR (X : Cx) (r : V → Option Int → Option Int → Hp → VK → Prop) : Prop :=
  ∀ (pins : List (Addr × Obj)) (s : Shared) (σ : St) (H : Hp) (x : V) (v vl vu : Value) (lo hi : Option Int) (sl : Addr) (Q : VK), Inv X pins σ H s → RelV x v → s.heap.IsSliceOf sl vl vu .none → IsPart vl lo → IsPart vu hi → r x lo hi H Q →
    ∃ T id, typeLookup (.type T) "__getitem__" = pure (some (.builtin id)) ∧ s.TypeIs v T ∧ wpAny (model X.prog X.w) X.A (getItem v (.ref sl)) (EP X pins σ Q) X.xe s
def tSl (r : V → Option Int → Option Int → Hp → VK → Prop) (te : TE) (tl th : TO) : TE := fun σ H Q => te σ H fun x H1 => tl σ H1 fun l H2 => th σ H2 fun u H3 => r x l u H3 Q
theorem pe_slice {r : V → Option Int → Option Int → Hp → VK → Prop} (hr : SlR X r) (he : PE X e te) (hl : PO X lo tl) (hu : PO X hi th) : PE X (.Subscript e (.Slice lo hi none p2) pos) (tSl r te tl th) := by
  intro pins s σ H Q I h
  refine Subscript_ (thn (he pins s σ H _ I h) fun v s1 ⟨x, H1, I1, r1, q1⟩ => ?_)
  refine wpAny_Slice (thn (hl pins s1 σ H1 _ I1 q1) fun vl s2 ⟨l, H2, I2, pl, q2⟩ => thn (hu pins s2 σ H2 _ I2 q2) fun vu s3 ⟨u, H3, I3, pu, q3⟩ => ?_)
  rw [evalPart_none]
  refine wpAny_pure ?_
  have I4 : Inv X pins σ H3 { s3 with heap := s3.heap.push { cls := .type "slice", data := .fields #[vl, vu, .none] } } := I3.kept (t' := s3.toks) fun b ob q => Heap.get?_push_of_some _ q
  obtain ⟨T, id, hT, ht, hg⟩ := hr pins { s3 with heap := s3.heap.push { cls := .type "slice", data := .fields #[vl, vu, .none] } } σ H3 x v vl vu l u s3.heap.objs.size Q I4 r1 (Heap.IsSliceOf.new ..) pl pu q3
  show wpAny (model X.prog X.w) X.A (subscriptTail e (.Slice lo hi none p2) v (.ref s3.heap.objs.size)) (EP X pins σ Q) X.xe { s3 with heap := s3.heap.push { cls := .type "slice", data := .fields #[vl, vu, .none] } }
  exact tail_any (ops := [.ref s3.heap.objs.size, v]) ht hT hg (by with_unfolding_all rfl)
def cutV (xs : List V) (lo hi : Option Int) : List V := (xs.drop (HT.sIx xs.length 0 lo)).take (HT.sIx xs.length xs.length hi - HT.sIx xs.length 0 lo)
theorem cutV_length (xs : List V) (lo hi : Option Int) : (cutV xs lo hi).length ≤ xs.length := by
  unfold cutV
  rw [List.length_take, List.length_drop]
  omega
end
end L2
namespace L2
open PySem PySem.Spec PyProof.Rows
def ixN (n : Nat) (i : Int) : Option Nat := if 0 ≤ i then (if i < n then some i.toNat else none) else if -(n : Int) ≤ i then some (i + n).toNat else none
def atI {α : Type} (xs : List α) (i : Int) : Option α := (ixN xs.length i).bind fun j => xs[j]?
theorem ixN_seq {n : Nat} {i : Int} {j : Nat} (h : ixN n i = some j) : seqIndex? i n = some j ∧ j < n ∧ -(n : Int) ≤ i ∧ i < n := by
  unfold ixN at h
  by_cases h0 : 0 ≤ i
  · rw [if_pos h0] at h
    by_cases h1 : i < n
    · rw [if_pos h1] at h
      have e : i.toNat = j := Option.some.inj h
      exact ⟨by rw [seqIndex_of h0 h1, e], by omega, by omega, h1⟩
    · rw [if_neg h1] at h; cases h
  · rw [if_neg h0] at h
    by_cases h1 : -(n : Int) ≤ i
    · rw [if_pos h1] at h
      have e : (i + n).toNat = j := Option.some.inj h
      exact ⟨by rw [seqIndex_neg (by omega) h1, e], by omega, h1, by omega⟩
    · rw [if_neg h1] at h; cases h
theorem atI_get {α : Type} {xs : List α} {i : Int} {v : α} (h : atI xs i = some v) : ∃ j, seqIndex? i xs.length = some j ∧ xs[j]? = some v ∧ j < xs.length ∧ -(xs.length : Int) ≤ i ∧ i < xs.length := by
  unfold atI at h
  cases e : ixN xs.length i with
  | none => rw [e] at h; cases h
  | some j =>
    rw [e] at h
    obtain ⟨h1, h2, h3, h4⟩ := ixN_seq e
    exact ⟨j, h1, h, h2, h3, h4⟩
theorem atI_nat {α : Type} {xs : List α} {j : Nat} {v : α} (h : xs[j]? = some v) : atI xs (j : Int) = some v := by
  have hj : j < xs.length := (List.getElem?_eq_some_iff.mp h).1
  have e : ixN xs.length (j : Int) = some j := by
    unfold ixN
    rw [if_pos (by omega), if_pos (by omega)]; simp
  unfold atI; rw [e]; exact h
theorem atI_last {α : Type} (xs : List α) (v : α) : atI (xs ++ [v]) (-1) = some v := by
  have hl : (xs ++ [v]).length = xs.length + 1 := by simp
  have e : ixN (xs ++ [v]).length (-1) = some xs.length := by
    unfold ixN
    rw [hl, if_neg (by decide), if_pos (by omega)]
    congr 1
    omega
  unfold atI
  rw [e]
  show (xs ++ [v])[xs.length]? = some v
  simp
def PlainIx (b : Expr) : Prop := ∀ o i, subscripted b false o i = operate [o, i] (getItem o i)
def IxR (X : Cx) (r : R2) : Prop :=
  ∀ (value slice : Expr) (pins : List (Addr × Obj)) (s : Shared) (σ : St) (H : Hp) (x y : V) (v u : Value) (Q : VK), Inv X pins σ H s → RelV x v → RelV y u → r x y H Q →
    subscripted slice false v u = operate [v, u] (getItem v u) → wpAny (model X.prog X.w) X.A (subscriptTail value slice v u) (EP X pins σ Q) X.xe s
def MtR (X : Cx) (id : String) (r : V → List V → Hp → VK → Prop) : Prop :=
  ∀ (pins : List (Addr × Obj)) (s : Shared) (σ : St) (H : Hp) (x : V) (xs : List V) (v : Value) (us : List Value) (Q : VK), Inv X pins σ H s → RelV x v → Vals xs us → r x xs H Q →
    wpAny (model X.prog X.w) X.A (call (.builtin id) (v :: us)) (EP X pins σ Q) X.xe s
section
variable {X : Cx} {a b : Expr} {ta tb : TE} {pos : Pos}
theorem pe_ix {r : R2} (hr : IxR X r) (ha : PE X a ta) (hb : PE X b tb) (hs : PlainIx b) : PE X (.Subscript a b pos) (tOp r ta tb) := by
  intro pins s σ H Q I h
  exact Subscript_ (binT ha hb I h fun v u s2 x y H2 I2 rx ry q => hr a b pins s2 σ H2 x y v u Q I2 rx ry q (hs _ _))
def rIxL (K : PySem.W.Frag) : R2 := fun x y H Q => ∃ p xs i v, x = .ref p ∧ y = .int i ∧ SqL K H p xs ∧ atI xs i = some v ∧ Q v H
def rIxT (K : PySem.W.Frag) : R2 := fun x y H Q => ∃ p xs i v, x = .ref p ∧ y = .int i ∧ SqT K H p xs ∧ atI xs i = some v ∧ Q v H
theorem ix_list : IxR X (rIxL X.K) := by
  intro value slice pins s σ H x y v u Q I rx ry h hs
  obtain ⟨p, xs, i, z, rfl, rfl, hq, he, q⟩ := h
  cases rx
  obtain ⟨t, rfl⟩ := ry
  obtain ⟨its, r, pl, hz⟩ := I.list hq
  obtain ⟨j, h1, h2, h3, h4, h5⟩ := atI_get he
  obtain ⟨w, ew, rw'⟩ := r.get h2
  have hl := r.length
  have hn := line63
  have fin : EP X pins σ Q w s := ⟨z, H, I, rw', q⟩
  by_cases h0 : 0 ≤ i
  · have hj : i.toNat = j := by
      rw [seqIndex_of h0 h5] at h1
      exact Option.some.inj h1
    exact item_listR pl.isList h0 (by omega) (by rw [hj]; simpa using ew) fin hs
  · have hj : (i + (its.toArray.size : Int)).toNat = j := by
      rw [seqIndex_neg (by omega) h4] at h1
      rw [List.size_toArray, ← hl]
      exact Option.some.inj h1
    exact subscriptTail_builtinR (x := w) pl.isList.typeIs slot_list_getitem.lookup
      (wpAny_getItem_list_neg (Q := fun r s' => r = w ∧ EP X pins σ Q r s') pl.isList (by omega) (by rw [List.size_toArray] <;> omega) (by omega) (by rw [hj]; simpa using ew) ⟨rfl, fin⟩) hs
theorem ix_tup : IxR X (rIxT X.K) := by
  intro value slice pins s σ H x y v u Q I rx ry h hs
  obtain ⟨p, xs, i, z, rfl, rfl, hq, he, q⟩ := h
  cases rx
  obtain ⟨t, rfl⟩ := ry
  obtain ⟨its, r, pl, hz⟩ := I.tuple hq
  obtain ⟨j, h1, h2, h3, h4, h5⟩ := atI_get he
  obtain ⟨w, ew, rw'⟩ := r.get h2
  have hl := r.length
  have hn := line63
  have fin : EP X pins σ Q w s := ⟨z, H, I, rw', q⟩
  exact subscriptTail_builtinR (x := w) pl.typeIs slot_tuple_getitem.lookup
    (getItem_tuple (j := j) (Q := fun r s' => r = w ∧ EP X pins σ Q r s') pl (by omega) (by omega) (by rw [List.size_toArray, ← hl]; exact h1) (by simpa using ew) ⟨rfl, fin⟩) hs
theorem slice_bounds (lo hi : Option Int) (n : Nat) : (sliceBounds lo hi none n).1 = ((HT.sIx n 0 lo : Nat) : Int) ∧ (sliceBounds lo hi none n).2.1 = ((HT.sIx n n hi : Nat) : Int) ∧ (sliceBounds lo hi none n).2.2 = 1 := by
  refine ⟨?_, ?_, rfl⟩
  · cases lo with
    | none => simp [sliceBounds, HT.sIx]
    | some i =>
      simp only [sliceBounds, HT.sIx, Option.getD_none, show (1 : Int) > 0 by decide, if_true]
      by_cases h : i < 0
      · simp only [h, if_true] <;> omega
      · simp only [h, if_false] <;> omega
  · cases hi with
    | none => simp [sliceBounds, HT.sIx]
    | some i =>
      simp only [sliceBounds, HT.sIx, Option.getD_none, show (1 : Int) > 0 by decide, if_true]
      by_cases h : i < 0
      · simp only [h, if_true] <;> omega
      · simp only [h, if_false] <;> omega
theorem slicePick_cut (its : List Value) (lo hi : Option Int) : slicePick its.toArray lo hi none = ((its.drop (HT.sIx its.length 0 lo)).take (HT.sIx its.length its.length hi - HT.sIx its.length 0 lo)).toArray := by
  obtain ⟨h1, h2, h3⟩ := slice_bounds lo hi its.toArray.size
  unfold slicePick
  rw [h1, h2, h3]
  simp only [sliceRange_one, pick_run, List.size_toArray] <;> rfl
def rSlL (K : PySem.W.Frag) : V → Option Int → Option Int → Hp → VK → Prop := fun x lo hi H Q => ∃ a xs, x = .ref a ∧ SqL K H a xs ∧ ∀ p, H p = none → Q (.ref p) (upd H p (.lst (cutV xs lo hi)))
theorem sl_list : SlR X (rSlL X.K) := by
  intro pins s σ H x v vl vu lo hi sl Q I rx hs pl pu h
  obtain ⟨a, xs, rfl, hx, q⟩ := h
  cases rx
  obtain ⟨its, r, ht, hz⟩ := I.list hx
  have hlen := r.length
  refine ⟨"list", _, slot_list_getitem.lookup, ht.isList.typeIs, ?_⟩
  refine wpAny_getItem_list_slice ht.isList hs pl pu .none (by simp) ?_ (by rw [List.size_toArray] <;> omega)
  rw [slicePick_cut, ← hlen]
  refine ⟨.ref s.heap.objs.size, _, I.laid (t' := s.toks) (o := .lst (cutV xs lo hi)) (fun b ob q => Heap.get?_push_of_some _ q) (Nat.le_refl _) ?_, rfl, q _ (I.hok.fresh (Nat.le_refl _))⟩
  exact ⟨Nat.le_trans (cutV_length xs lo hi) hz, _, 0, (r.drop (HT.sIx xs.length 0 lo)).take (HT.sIx xs.length xs.length hi - HT.sIx xs.length 0 lo), Heap.get?_push_size _ rfl⟩
def flatV : V → Bool
  | .non => true
  | .bl _ => true
  | .int _ => true
  | .str _ => true
  | _ => false
def eqV : V → V → Bool
  | .non, .non => true
  | .bl a, .bl b => a == b
  | .bl a, .int b => (if a then 1 else 0) == b
  | .int a, .bl b => a == (if b then 1 else 0)
  | .int a, .int b => a == b
  | .str a, .str b => a == b
  | _, _ => false
theorem eqAt_V {A : Around} {s : Shared} {y x : V} {u v : Value} (ry : RelV y u) (rx : RelV x v) (fy : flatV y = true) (fx : flatV x = true) : SeqAt.EqAt A s u v (eqV y x) := by
  cases y with
  | non =>
    cases ry
    cases x with
    | non => cases rx; exact SeqAt.EqAt.same _
    | bl b => cases rx; exact SeqAt.EqAt.none_bool b
    | int b => obtain ⟨t, rfl⟩ := rx; exact SeqAt.EqAt.none_int b t
    | str b => obtain ⟨t, rfl⟩ := rx; exact SeqAt.EqAt.none_str b t
    | _ => exact absurd (show false = true from fx) Bool.false_ne_true
  | bl a =>
    cases ry
    cases x with
    | non => cases rx; exact SeqAt.EqAt.bool_none a
    | bl b => cases rx; exact SeqAt.EqAt.bool_bool a b
    | int b => obtain ⟨t, rfl⟩ := rx; exact SeqAt.EqAt.bool_int a b t
    | str b => obtain ⟨t, rfl⟩ := rx; exact SeqAt.EqAt.bool_str a b t
    | _ => exact absurd (show false = true from fx) Bool.false_ne_true
  | int a =>
    obtain ⟨t', rfl⟩ := ry
    cases x with
    | non => cases rx; exact SeqAt.EqAt.int_none a t'
    | bl b => cases rx; exact SeqAt.EqAt.int_bool a t' b
    | int b => obtain ⟨t, rfl⟩ := rx; exact SeqAt.EqAt.int_int a t' b t
    | str b => obtain ⟨t, rfl⟩ := rx; exact SeqAt.EqAt.int_str a t' b t
    | _ => exact absurd (show false = true from fx) Bool.false_ne_true
  | str a =>
    obtain ⟨t', rfl⟩ := ry
    cases x with
    | non => cases rx; exact SeqAt.EqAt.str_none a t'
    | bl b => cases rx; exact SeqAt.EqAt.str_bool a t' b
    | int b => obtain ⟨t, rfl⟩ := rx; exact SeqAt.EqAt.str_int a t' b t
    | str b => obtain ⟨t, rfl⟩ := rx; exact SeqAt.EqAt.str_str a t' b t
    | _ => exact absurd (show false = true from fx) Bool.false_ne_true
  | _ => exact absurd (show false = true from fy) Bool.false_ne_true
def eqU (x : V) (u : Value) : Bool := match u with
  | .none => eqV .non x
  | .bool b => eqV (.bl b) x
  | .int i _ => eqV (.int i) x
  | .str z _ => eqV (.str z) x
  | _ => false
theorem eqU_of {x y : V} {u : Value} (r : RelV y u) (f : flatV y = true) : eqU x u = eqV y x := by
  cases y with
  | non => cases r; rfl
  | bl b => cases r; rfl
  | int i => obtain ⟨t, rfl⟩ := r; rfl
  | str z => obtain ⟨t, rfl⟩ := r; rfl
  | _ => exact absurd (show false = true from f) Bool.false_ne_true
theorem mem_eqAt {A : Around} {s : Shared} {x : V} {v : Value} (rx : RelV x v) (fx : flatV x = true) : ∀ {xs : List V} {us : List Value}, Vals xs us → xs.all flatV = true → ∀ u ∈ us, SeqAt.EqAt A s u v (eqU x u)
  | _, _, .nil, _ => fun u hu => by cases hu
  | y :: xs, u :: us, .cons r t, f => fun u' hu => by
    rw [List.all_cons, Bool.and_eq_true] at f
    rcases List.mem_cons.mp hu with rfl | hu
    · rw [eqU_of r f.1]; exact eqAt_V r rx f.1 fx
    · exact mem_eqAt rx fx t f.2 u' hu
theorem call_len_seq : CallR X (.builtin "len") (fun xs H Q => ∃ p ys, xs = [.ref p] ∧ (SqL X.K H p ys ∨ SqT X.K H p ys) ∧ Q (.int ys.length) H) := by
  intro pins s σ H xs us Q I r h
  obtain ⟨p, ys, rfl, hq, q⟩ := h
  obtain ⟨u, rfl, rx⟩ := vals1 r
  cases rx
  have hn := line63
  rcases hq with hq | hq
  · obtain ⟨its, r', pl, hz⟩ := I.list hq
    have hlen := r'.length
    exact Calls.call_len_list pl.isList (by simp only [List.size_toArray] <;> omega) ⟨.int ys.length, H, I.tok _, ⟨s.toks + 1, by rw [List.size_toArray, hlen]⟩, q⟩
  · obtain ⟨its, r', pl, hz⟩ := I.tuple hq
    have hlen := r'.length
    exact len_tuple pl (by simp only [List.size_toArray] <;> omega) ⟨.int ys.length, H, I.tok _, ⟨s.toks + 1, by rw [List.size_toArray, hlen]⟩, q⟩
def tyV (K : PySem.W.Frag) (T : String) (x : V) (H : Hp) : Prop := match x with
  | .str _ => T = "str"
  | .int _ => T = "int"
  | .ref p => (T = "list" ∧ ∃ xs, SqL K H p xs) ∨ (T = "tuple" ∧ ∃ o, K.lookup p = some o ∧ o.cls = .type "tuple" ∧ o.dict = none) ∨
      (T = "dict" ∧ ((∃ kvs, H p = some (.dK kvs)) ∨ ∃ kvs, H p = some (.dT kvs))) ∨ (T = "set" ∧ ∃ S n, H p = some (.set S n))
  | _ => False
theorem tyV_is {pins : List (Addr × Obj)} {σ : St} {H : Hp} {s : Shared} {T : String} {x : V} {v : Value} (I : Inv X pins σ H s) (r : RelV x v) (ty : tyV X.K T x H) :
    s.TypeIs v T ∧ ∀ a, v = .ref a → ∃ ob, s.heap.get? a = some ob ∧ ob.dict = none := by
  cases x with
  | str z =>
    obtain ⟨t, rfl⟩ := r
    cases (show T = "str" from ty)
    exact ⟨typeIs_str s z t, fun _ e => nomatch e⟩
  | int i =>
    obtain ⟨t, rfl⟩ := r
    cases (show T = "int" from ty)
    exact ⟨typeIs_int s i t, fun _ e => nomatch e⟩
  | ref p =>
    cases r
    rcases ty with ⟨rfl, xs, hq⟩ | ⟨rfl, o, hk, hc, hd⟩ | ⟨rfl, hk⟩ | ⟨rfl, S, n, hk⟩
    · obtain ⟨its, _, pl, _⟩ := I.list hq
      refine ⟨pl.isList.typeIs, fun a e => ?_⟩
      cases e
      obtain ⟨o, n, e, c, hd, _⟩ := pl
      exact ⟨o, e, hd⟩
    · refine ⟨⟨o, I.kIn p o hk, hc⟩, fun a e => ?_⟩
      cases e
      exact ⟨o, I.kIn _ o hk, hd⟩
    · have z : ∃ o, s.heap.get? p = some o ∧ o.ExactDict := by
        rcases hk with ⟨kvs, hk⟩ | ⟨kvs, hk⟩
        · obtain ⟨_, _, _, _, o, _, _, e, ex, _⟩ := I.hok p _ hk
          exact ⟨o, e, ex⟩
        · obtain ⟨_, _, _, _, o, _, _, e, ex, _⟩ := I.hok p _ hk
          exact ⟨o, e, ex⟩
      obtain ⟨o, e, ex⟩ := z
      refine ⟨⟨o, e, ex.1⟩, fun a e2 => ?_⟩
      cases e2
      exact ⟨o, e, ex.2.1⟩
    · obtain ⟨o, _, _, _, e, ex, _⟩ := I.hok p _ hk
      refine ⟨⟨o, e, ex.1⟩, fun a e2 => ?_⟩
      cases e2
      exact ⟨o, e, ex.2.1⟩
  | _ => exact False.elim ty
def tBM0 (K : PySem.W.Frag) (T : String) (r : V → List V → Hp → VK → Prop) (to : TE) : TE := fun σ H Q => to σ H fun x H1 => tyV K T x H1 ∧ r x [] H1 Q
def tBM (K : PySem.W.Frag) (T : String) (r : V → List V → Hp → VK → Prop) (to : TE) (t : TA) : TE := fun σ H Q => to σ H fun x H1 => tyV K T x H1 ∧ t σ H1 fun xs H2 => r x xs H2 Q
variable {o e : Expr} {es : List Expr} {to : TE} {t : TA} {name : Str} {apos cpos : Pos} {T id : String} {r : V → List V → Hp → VK → Prop}
theorem pe_bm0 (pa : PlainAttrs T) (slot : Slot T name id) (hty : typeOf (.builtin id) = pure (.type "method_descriptor")) (hm : MtR X id r) (ho : PE X o to)
    (hbase : attributeBase o name X.env (eval o X.env) = eval o X.env := by rfl) (hline : (apos.endLine == cpos.line) = true := by rfl) : PE X (.Call (.Attribute o name apos) [] [] cpos) (tBM0 X.K T r to) := by
  intro pins s σ H Q I h
  refine wpAny_Call_method0_late hbase hline (thn (ho pins s σ H _ I h) fun v s1 ⟨x, H1, I1, r1, ty, q1⟩ => ?_)
  obtain ⟨h1, h2⟩ := tyV_is I1 r1 ty
  exact ⟨T, id, pa, slot, hty, h1, h2, Calls.callWith_builtin rfl (PySem.evalArgs_none (hm pins s1 σ H1 x [] v [] Q I1 r1 .nil q1))⟩
theorem pe_bm (pa : PlainAttrs T) (slot : Slot T name id) (hty : typeOf (.builtin id) = pure (.type "method_descriptor")) (hm : MtR X id r) (ho : PE X o to) (ha : PA X (e :: es) t)
    (hbase : attributeBase o name X.env (eval o X.env) = eval o X.env := by rfl)
    (hfew : ((backTo cpos (starEach (e :: es) X.env)).all (fun x => !x.1) && (backToKw cpos (keywordEach [] X.env)).all (fun x => x.1.isSome)
      && decide ((e :: es).length + ([] : List Keyword).length + (if ([] : List Keyword).isEmpty then 0 else 1) < 30)) = true := by rfl)
    (hline : (apos.endLine == cpos.line) = true := by rfl) (hs : starEach (e :: es) X.env = (false, eval e X.env) :: starEach es X.env := by rfl) (hplain : (backTo cpos (starEach es X.env)).any (·.1) = false := by rfl) :
    PE X (.Call (.Attribute o name apos) (e :: es) [] cpos) (tBM X.K T r to t) := by
  intro pins s σ H Q I h
  refine wpAny_Call_method_late hbase hfew hline rfl (thn (ho pins s σ H _ I h) fun v s1 ⟨x, H1, I1, r1, ty, q1⟩ => ?_)
  obtain ⟨h1, h2⟩ := tyV_is I1 r1 ty
  refine ⟨T, id, pa, slot, hty, h1, h2, ?_⟩
  have hA := ha cpos pins s1 σ H1 _ I1 q1
  rw [hs] at hA ⊢
  refine Calls.callWith_builtin (by show (false || (backTo cpos (starEach es X.env)).any (·.1)) = false; rw [hplain] <;> rfl) (Calls.evalArgs_plain ?_)
  exact thn hA fun us s2 ⟨vs, H2, I2, r2, q2⟩ => hm pins s2 σ H2 x vs v us Q I2 r1 r2 q2
end
end L2
namespace L2
open PySem PySem.Spec PyProof.Rows
def MtM (X : Cx) (id : String) (r : V → List V → Hp → VK → Prop) : Prop :=
  ∀ (pins : List (Addr × Obj)) (s : Shared) (σ : St) (H : Hp) (x : V) (xs : List V) (v : Value) (us : List Value) (Q : VK), Inv X pins σ H s → RelV x v → Vals xs us → r x xs H Q →
    wpAny (model X.prog X.w) X.A (call (.builtin id) (v :: us)) (EP X pins σ Q) X.xe s
theorem Vals.one : ∀ {x : V} {us : List Value}, Vals [x] us → ∃ u, us = [u] ∧ RelV x u
  | _, _, .cons r .nil => ⟨_, rfl, r⟩
theorem Vals.zero : ∀ {us : List Value}, Vals [] us → us = []
  | _, .nil => rfl
theorem Vals.dropLast {xs : List V} {us : List Value} (h : Vals xs us) : Vals xs.dropLast us.dropLast := by
  induction h with
  | nil => exact .nil
  | cons r t ih =>
    cases t with
    | nil => exact .nil
    | cons q t' => exact .cons r ih
theorem erase_last {α : Type} (l : List α) : l.eraseIdx (l.length - 1) = l.dropLast := by
  induction l with
  | nil => rfl
  | cons a r ih =>
    cases r with
    | nil => rfl
    | cons b r =>
      have e : (a :: b :: r).length - 1 = ((b :: r).length - 1) + 1 := by
        have h1 : (a :: b :: r).length = r.length + 2 := rfl
        have h2 : (b :: r).length = r.length + 1 := rfl
        omega
      rw [e, List.eraseIdx_cons_succ, ih]
      all_goals rfl
section
variable {X : Cx} {pins : List (Addr × Obj)} {σ : St} {H : Hp} {s : Shared} {l b : Addr} {xs ys zs : List V}
theorem Inv.lset {its its' : List Value} {n : Nat} {f : Array Value → Array Value} {t' : Nat} (I : Inv X pins σ H s) (hH : H l = some (.lst xs))
    (e : s.heap.get? l = some { cls := .type "list", data := .seq its.toArray n }) (hf : f its.toArray = its'.toArray) (hv : Vals ys its') (hz : ys.length ≤ sizeLine) :
    Inv X pins σ (upd H l (.lst ys)) { s with heap := s.heap.update l (Obj.mapSeq f), toks := t' } := by
  have q := PySem.IsL.update e f
  rw [hf] at q
  refine I.write (x := l) (e := l) (by rw [hH]; exact trivial) (.inl rfl) (fun b' u hb hu => (Heap.get?_update_other s.heap (Obj.mapSeq f) (Ne.symm hb)).trans hu) ⟨_, q⟩ ?_
  exact ⟨hz, its', _, hv, q⟩
theorem Inv.lnew {its : List Value} {t' : Nat} (I : Inv X pins σ H s) (hv : Vals ys its) (hz : ys.length ≤ sizeLine) :
    Inv X pins σ (upd H s.heap.objs.size (.lst ys)) { s with heap := s.heap.push { cls := .type "list", data := .seq its.toArray }, toks := t' } :=
  I.laid (fun _ _ q => Heap.get?_push_of_some _ q) (Nat.le_refl _) ⟨hz, its, 0, hv, Heap.get?_push_size _ rfl⟩
theorem Inv.fresh (I : Inv X pins σ H s) : H s.heap.objs.size = none := I.hok.fresh (Nat.le_refl _)
theorem Inv.lstM (I : Inv X pins σ H s) (hH : H l = some (.lst xs)) : xs.length ≤ sizeLine ∧ ∃ (its : List Value) (n : Nat), Vals xs its ∧ xs.length = its.length ∧ s.heap.get? l = some { cls := .type "list", data := .seq its.toArray n } := by
  obtain ⟨z, its, n, r, e⟩ := I.hok l _ hH
  exact ⟨z, its, n, r, r.length, e⟩
theorem notLongL {n : Nat} (h : n ≤ sizeLine) : Builtin.List.listTooLong n = false := by
  unfold Builtin.List.listTooLong
  exact decide_eq_false (by omega)
end
section
variable {X : Cx}
def rAppend : V → List V → Hp → VK → Prop := fun x vs H Q => ∃ l xs y, x = .ref l ∧ vs = [y] ∧ H l = some (.lst xs) ∧ xs.length < sizeLine ∧ Q .non (upd H l (.lst (xs ++ [y])))
theorem mt_append : MtM X "list.append" rAppend := by
  intro pins s σ H x vs v us Q I rx rv h
  obtain ⟨l, xs, y, rfl, rfl, hH, hz, q⟩ := h
  cases rx
  obtain ⟨u, rfl, ru⟩ := rv.one
  obtain ⟨z, its, n, r, hl, e⟩ := I.lstM hH
  refine call_meets F.slot_list_append ⟨_, e, rfl⟩ F.entry_list_append (F.args_list_append_2 _ _) (PySem.list_append l its.toArray n u (by rw [List.size_toArray]; omega)) ⟨e, ?_⟩
  refine ⟨.non, _, I.lset (its' := its ++ [u]) hH e (by simp) (r.append (.cons ru .nil)) ?_, rfl, q⟩
  rw [List.length_append, List.length_singleton]
  omega
def rExtend : V → List V → Hp → VK → Prop := fun x vs H Q => ∃ l b xs zs, x = .ref l ∧ vs = [.ref b] ∧ H l = some (.lst xs) ∧ H b = some (.lst zs) ∧ xs.length + zs.length ≤ sizeLine ∧ Q .non (upd H l (.lst (xs ++ zs)))
theorem mt_extend : MtM X "list.extend" rExtend := by
  intro pins s σ H x vs v us Q I rx rv h
  obtain ⟨l, b, xs, zs, rfl, rfl, hH, hB, hz, q⟩ := h
  cases rx
  obtain ⟨u, rfl, ru⟩ := rv.one
  cases ru
  obtain ⟨z, its, n, r, hl, e⟩ := I.lstM hH
  obtain ⟨z2, its2, n2, r2, hl2, e2⟩ := I.lstM hB
  have hsz : its.toArray.size + its2.toArray.size ≤ sizeLine := by rw [List.size_toArray, List.size_toArray]; omega
  have hlong : ¬ (!its.toArray.isEmpty && Builtin.List.listTooLong (its.toArray.size + its2.toArray.size)) = true := by
    rw [notLongL hsz, Bool.and_false]
    exact Bool.false_ne_true
  refine call_meets F.slot_list_extend ⟨_, e, rfl⟩ F.entry_list_extend (F.args_list_extend_2 _ _)
    (AutoSeq1.list_extend_list_list_0 l its.toArray n b its2.toArray n2 hlong (by rw [List.size_toArray]; omega) (by omega)) ⟨e, e2, ?_⟩
  refine ⟨.non, _, I.lset (its' := its ++ its2) hH e (by simp) (r.append r2) ?_, rfl, q⟩
  rw [List.length_append]
  omega
def rPop : V → List V → Hp → VK → Prop := fun x vs H Q => ∃ l xs y, x = .ref l ∧ vs = [] ∧ H l = some (.lst xs) ∧ xs[xs.length - 1]? = some y ∧ Q y (upd H l (.lst xs.dropLast))
theorem mt_pop : MtM X "list.pop" rPop := by
  intro pins s σ H x vs v us Q I rx rv h
  obtain ⟨l, xs, y, rfl, rfl, hH, hy, q⟩ := h
  cases rx
  have hus := rv.zero
  subst hus
  obtain ⟨z, its, n, r, hl, e⟩ := I.lstM hH
  obtain ⟨u, hu, ru⟩ := r.get hy
  have hy' : its.toArray[its.toArray.size - 1]? = some u := by
    show its.toArray[its.length - 1]? = some u
    rw [← Array.getElem?_toList, ← hl]
    exact hu
  refine call_meets F.slot_list_pop ⟨_, e, rfl⟩ F.entry_list_pop (F.args_list_pop_1 _) (MeetsSeq.list_pop_last l its.toArray n u hy' (by rw [List.size_toArray]; omega)) ⟨e, ?_⟩
  refine ⟨y, _, I.lset (its' := its.dropLast) hH e ?_ r.dropLast ?_, ru, q⟩
  · show its.toArray.eraseIdxIfInBounds (its.toArray.size - 1) = its.dropLast.toArray
    rw [List.size_toArray, List.eraseIdxIfInBounds_toArray, erase_last]
  · rw [List.length_dropLast]
    omega
def rCat : R2 := fun x y H Q => ∃ l b xs zs, x = .ref l ∧ y = .ref b ∧ H l = some (.lst xs) ∧ H b = some (.lst zs) ∧ xs.length + zs.length ≤ sizeLine ∧ ∀ p, H p = none → Q (.ref p) (upd H p (.lst (xs ++ zs)))
theorem op_cat : OpR X (binaryOp .Add) rCat := by
  intro pins s σ H x y v u Q I rx ry h
  obtain ⟨l, b, xs, zs, rfl, rfl, hH, hB, hz, q⟩ := h
  cases rx
  cases ry
  obtain ⟨z, its, n, r, hl, e⟩ := I.lstM hH
  obtain ⟨z2, its2, n2, r2, hl2, e2⟩ := I.lstM hB
  refine PySem.P.add_list e e2 ?_ (by rw [List.size_toArray, List.size_toArray]; omega)
  have ea : its.toArray ++ its2.toArray = (its ++ its2).toArray := by simp
  rw [ea]
  exact ⟨.ref _, _, I.lnew (t' := s.toks) (r.append r2) (by rw [List.length_append]; omega), rfl, q _ I.fresh⟩
end
section
variable {prog : Program} {w : World} {A : Around} {E : Value → Shared → Prop} {s : Shared}
end
section
variable {X : Cx}
end
end L2
namespace L2
open PySem PySem.Spec PyProof.Rows
theorem Vals.ints : ∀ {ns : List Int} {us : List Value}, Vals (ns.map V.int) us → IntsAre us ns
  | [], us, h => by
    rw [List.map_nil] at h
    cases h
    exact IntsAre.nil
  | n :: ns, us, h => by
    rw [List.map_cons] at h
    cases h with
    | cons r t =>
      obtain ⟨k, rfl⟩ := r
      exact IntsAre.cons n k (Vals.ints t)
theorem Vals.ref1 {a : Addr} {us : List Value} (r : Vals [V.ref a] us) : us = [Value.ref a] := by
  cases r with
  | cons r t =>
    cases t
    cases r
    rfl
section
variable {prog : Program} {w : World} {A : Around} {E : Value → Shared → Prop} {s : Shared} {l : Addr} {its : List Value} {ns : List Int} {Q : Value → Shared → Prop}
theorem sum_raw (hh : A.handled = none) (hl : s.heap.IsList l its.toArray) (hi : IntsAre its ns)
    (h : ∀ h' tk t', (∀ b o, s.heap.get? b = some o → h'.get? b = some o) → Q (.int ns.sum t') { s with heap := h', toks := tk }) : wpAny (model prog w) A (call (.builtin "sum") [.ref l]) Q E s := by
  obtain ⟨xs, e⟩ := hi.allInts.items
  have hn : numsOf (intItems xs).toList = ns := by rw [← e]; exact hi.numsOf
  rw [nums_intItems] at hn
  rw [e] at hl
  refine PySem.sum_intListG hh hl fun h' tk t' hk => ?_
  have := h h' tk t' hk
  rw [preSum_eq, List.take_of_length_le (by simp), hn]; exact this
theorem min_raw (hh : A.handled = none) (hl : s.heap.IsList l its.toArray) (hi : IntsAre its ns) (hne : 0 < ns.length)
    (h : ∀ h' tk M t', (∀ b o, s.heap.get? b = some o → h'.get? b = some o) → M ∈ ns → (∀ a, a ∈ ns → M ≤ a) → Q (.int M t') { s with heap := h', toks := tk }) : wpAny (model prog w) A (call (.builtin "min") [.ref l]) Q E s := by
  obtain ⟨xs, e⟩ := hi.allInts.items
  have hn : numsOf (intItems xs).toList = ns := by rw [← e]; exact hi.numsOf
  rw [nums_intItems] at hn
  subst hn
  rw [e] at hl
  have hsz : 0 < xs.size := by simpa using hne
  refine PySem.min_intList hh hl hsz fun v h' tk hv hk => ?_
  obtain ⟨t, rfl⟩ := intItems_at hv
  obtain ⟨h1, h2⟩ := argBest_lt (numAt xs) (xs.size - 1)
  refine h h' tk _ t hk ?_ fun a ha => ?_
  · rw [numAt_eq]; exact PySem.getD_mem (by rw [List.length_map, Array.length_toList]; omega)
  · obtain ⟨j, hj, rfl⟩ := mem_getD ha
    rw [List.length_map, Array.length_toList] at hj
    rw [← numAt_eq]; exact h2 j (by omega)
end
section
variable {X : Cx}
def rSum (K : PySem.W.Frag) : List V → Hp → VK → Prop := fun vs H Q => ∃ (a : Addr) (ns : List Int), vs = [V.ref a] ∧ SqL K H a (ns.map V.int) ∧ Q (.int ns.sum) H
def rMin (K : PySem.W.Frag) : List V → Hp → VK → Prop := fun vs H Q => ∃ (a : Addr) (ns : List Int), vs = [V.ref a] ∧ SqL K H a (ns.map V.int) ∧ 0 < ns.length ∧ ∀ m, m ∈ ns → (∀ y, y ∈ ns → m ≤ y) → Q (.int m) H
theorem cr_sum (hc : X.calm = true) : CallR X (.builtin "sum") (rSum X.K) := by
  intro pins s σ H vs us Q I r h
  obtain ⟨a, ns, rfl, hs, q⟩ := h
  obtain ⟨its, rv, hl, _⟩ := I.list hs
  rw [Vals.ref1 r]
  exact sum_raw (I.ok.hd hc) hl.isList rv.ints fun h' tk t' hk => ⟨.int _, H, I.kept hk, ⟨_, rfl⟩, q⟩
theorem cr_min (hc : X.calm = true) : CallR X (.builtin "min") (rMin X.K) := by
  intro pins s σ H vs us Q I r h
  obtain ⟨a, ns, rfl, hs, hne, q⟩ := h
  obtain ⟨its, rv, hl, _⟩ := I.list hs
  rw [Vals.ref1 r]
  exact min_raw (I.ok.hd hc) hl.isList rv.ints hne fun h' tk m t' hk h1 h2 => ⟨.int _, H, I.kept hk, ⟨_, rfl⟩, q m h1 h2⟩
end
section
variable {X : Cx}
def rIndex (K : PySem.W.Frag) : V → List V → Hp → VK → Prop := fun x xs H Q => ∃ (a : Addr) (ys : List V) (y : V) (j : Nat) (z : V), x = V.ref a ∧ xs = [y] ∧ SqL K H a ys ∧ flatV y = true ∧ ys.all flatV = true ∧ ys[j]? = some z ∧ eqV z y = true ∧
  (∀ (m : Nat) (z' : V), m < j → ys[m]? = some z' → eqV z' y = false) ∧ Q (.int (j : Nat)) H
theorem flat_at {ys : List V} (f : ys.all flatV = true) {j : Nat} {z : V} (h : ys[j]? = some z) : flatV z = true := List.all_eq_true.mp f z (List.mem_of_getElem? h)
theorem mt_index : MtR X "list.index" (rIndex X.K) := by
  intro pins s σ H x xs v us Q I rx rxs h
  obtain ⟨a, ys, y, j, z, rfl, rfl, hs, fy, fys, hz, hzj, hno, q⟩ := h
  cases rx
  cases rxs with
  | cons ry rt =>
    rename_i uy ut
    cases rt
    obtain ⟨its, rv, ⟨⟨cls, dd, data, sl⟩, n, ho, hc, hdn, hd⟩, hlen⟩ := I.list hs
    simp only at hc hd
    subst hc hd
    obtain ⟨u, hu, ru⟩ := rv.get hz
    obtain ⟨hjl, hje⟩ := List.getElem?_eq_some_iff.mp hu
    have hvl := rv.length
    have hj : j < its.toArray.size := by simpa using hjl
    have hsl := sizeLine_eq
    refine call_meets PySem.F.slot_list_index ⟨_, ho, rfl⟩ PySem.F.entry_list_index (PySem.F.args_list_index_2 _ _)
      (SeqAt.list_indexAt a its.toArray n dd sl uy (eqU y) j hj (by omega) ?_ ?_) ⟨ho, fun u' hu' => mem_eqAt ry fy rv fys u' (by simpa using hu'), ?_⟩
    · have e1 : its.toArray[j] = u := by simpa using hje
      rw [e1, eqU_of ru (flat_at fys hz)]
      exact hzj
    · intro m hm hmj
      have hml : m < its.length := by simpa using hm
      have hmy : m < ys.length := by omega
      have hy' : ys[m]? = some ys[m] := List.getElem?_eq_getElem hmy
      obtain ⟨u2, hu2, ru2⟩ := rv.get hy'
      obtain ⟨_, hme⟩ := List.getElem?_eq_some_iff.mp hu2
      have e1 : its.toArray[m] = u2 := by simpa using hme
      rw [e1, eqU_of ru2 (flat_at fys hy')]
      exact hno m _ hmj hy'
    · exact ⟨.int (j : Nat), H, I.tok _, ⟨_, rfl⟩, q⟩
end
section
variable {X : Cx}
end
section
variable {X : Cx}
end
section
variable {X : Cx} {pins : List (Addr × Obj)} {σ : St} {H : Hp} {s : Shared}
end
section
variable {X : Cx}
end
end L2
namespace L2
open PySem PySem.Spec PyProof.Rows
abbrev CellAt (h : Heap) (c : Addr) (v : Option Value) : Prop := h.IsCell c v
def relS (scope sc : Scope) : Scope :=
  { scope with names := scope.names.map fun (n, k) => if (k == .free && sc.kind == .function && sc.names.lookup n == some .cell) then (n, .cell) else (n, k) }
def cloFrom (cells : List (Str × Addr)) : List (Str × NameKind) → List (Str × Addr) → List (Str × Addr)
  | [], acc => acc
  | (n, k) :: r, acc => if k == .free then cloFrom cells r ((n, (cells.lookup n).getD 0) :: acc) else cloFrom cells r acc
theorem closure_loop (env : Env) (f : Str × NameKind → List (Str × Addr) → Sem (ForInStep (List (Str × Addr))))
    (hf : ∀ n k c, f (n, k) c = if k == .free then (do let a ← cellOf env n; pure (.yield ((n, a) :: c))) else pure (.yield c)) :
    ∀ (names : List (Str × NameKind)) (acc : List (Str × Addr)), (∀ y ∈ names, y.2 = .free → ∃ c, env.cells.lookup y.1 = some c) → forIn names acc f = pure (cloFrom env.cells names acc)
  | [], acc, _ => by rw [List.forIn_nil]; rfl
  | (n, k) :: r, acc, h => by
    rw [List.forIn_cons, hf]
    have ih := fun acc => closure_loop env f hf r acc fun y hy => h y (List.mem_cons_of_mem _ hy)
    unfold cloFrom
    by_cases hk : (k == NameKind.free) = true
    · rw [if_pos hk, if_pos hk]
      obtain ⟨c, hc⟩ := h (n, k) List.mem_cons_self (by simpa using hk)
      have e : cellOf env n = pure c := by unfold cellOf; rw [hc]
      rw [e]
      have e2 : (env.cells.lookup n).getD 0 = c := by rw [hc]; rfl
      rw [e2]
      exact ih _
    · rw [if_neg hk, if_neg hk]
      exact ih _
theorem closure_ok {scope : Scope} {env : Env} (h : ∀ y ∈ scope.names, y.2 = .free → ∃ c, env.cells.lookup y.1 = some c) : closureFor scope env = pure (cloFrom env.cells scope.names []) := by
  simp only [closureFor]
  rw [closure_loop env _ (fun n k c => rfl) scope.names [] h]
  rfl
theorem mem_lookup {α : Type} : ∀ {l : List (Str × α)} {n : Str} {c : α}, (n, c) ∈ l → ∃ c', l.lookup n = some c'
  | (k, v) :: r, n, c, h => by
    rw [List.lookup_cons]
    cases hb : n == k with
    | true => exact ⟨_, rfl⟩
    | false =>
      rcases List.mem_cons.mp h with e | h
      · cases e; simp at hb
      · exact mem_lookup h
theorem cloFrom_mem {cells : List (Str × Addr)} : ∀ {names : List (Str × NameKind)} {acc : List (Str × Addr)} {n : Str} {c : Addr}, (n, c) ∈ cloFrom cells names acc → (n, c) ∈ acc ∨ ((n, .free) ∈ names ∧ c = (cells.lookup n).getD 0)
  | [], _, _, _, h => .inl h
  | (m, k) :: r, acc, n, c, h => by
    unfold cloFrom at h
    split at h
    · rename_i hk
      have hk : k = .free := by simpa using hk
      rcases cloFrom_mem h with h | ⟨h1, h2⟩
      · rcases List.mem_cons.mp h with e | h
        · cases e; exact .inr ⟨hk ▸ List.mem_cons_self, rfl⟩
        · exact .inl h
      · exact .inr ⟨List.mem_cons_of_mem _ h1, h2⟩
    · rcases cloFrom_mem h with h | ⟨h1, h2⟩
      · exact .inl h
      · exact .inr ⟨List.mem_cons_of_mem _ h1, h2⟩
theorem cloFrom_acc {cells : List (Str × Addr)} : ∀ {names : List (Str × NameKind)} {acc : List (Str × Addr)} {p : Str × Addr}, p ∈ acc → p ∈ cloFrom cells names acc
  | [], _, _, h => h
  | (m, k) :: r, acc, p, h => by
    unfold cloFrom
    split
    · exact cloFrom_acc (List.mem_cons_of_mem _ h)
    · exact cloFrom_acc h
theorem cloFrom_has {cells : List (Str × Addr)} : ∀ {names : List (Str × NameKind)} {acc : List (Str × Addr)} {n : Str}, (n, .free) ∈ names → (n, (cells.lookup n).getD 0) ∈ cloFrom cells names acc
  | (m, k) :: r, acc, n, h => by
    unfold cloFrom
    rcases List.mem_cons.mp h with e | h
    · cases e
      exact cloFrom_acc List.mem_cons_self
    · split
      · exact cloFrom_has h
      · exact cloFrom_has h
theorem cells_mem : ∀ {names : List (Str × NameKind)} {h : Heap} {acc : List (Str × Addr)} {x : Str} {c : Addr}, (x, c) ∈ cellsFrom h.objs.size names acc →
    (x, c) ∈ acc ∨ ((x, .cell) ∈ names ∧ h.objs.size ≤ c ∧ CellAt (pushCells h names) c none)
  | [], _, _, _, _, h => .inl h
  | (n, k) :: r, h, acc, x, c, hm => by
    unfold cellsFrom at hm
    unfold pushCells
    split at hm
    · rename_i hk
      rw [if_pos hk]
      have hk : k = .cell := by simpa using hk
      rw [← Heap.size_push h { cls := .type "cell", data := .cell none }] at hm
      rcases cells_mem hm with hm | ⟨h1, h2, h3⟩
      · rcases List.mem_cons.mp hm with e | hm
        · cases e
          exact .inr ⟨hk ▸ List.mem_cons_self, Nat.le_refl _, _, pushCells_keeps r _ _ _ (Heap.get?_push_size _ rfl), rfl⟩
        · exact .inl hm
      · rw [Heap.size_push] at h2
        exact .inr ⟨List.mem_cons_of_mem _ h1, Nat.le_of_succ_le h2, h3⟩
    · rename_i hk
      rw [if_neg hk]
      rcases cells_mem hm with hm | ⟨h1, h2, h3⟩
      · exact .inl hm
      · exact .inr ⟨List.mem_cons_of_mem _ h1, h2, h3⟩
theorem cells_acc : ∀ {names : List (Str × NameKind)} {n : Nat} {acc : List (Str × Addr)} {p : Str × Addr}, p ∈ acc → p ∈ cellsFrom n names acc
  | [], _, _, _, h => h
  | (m, k) :: r, n, acc, p, h => by
    unfold cellsFrom
    split
    · exact cells_acc (List.mem_cons_of_mem _ h)
    · exact cells_acc h
theorem cells_has : ∀ {names : List (Str × NameKind)} {n : Nat} {acc : List (Str × Addr)} {x : Str}, (x, .cell) ∈ names → ∃ c, (x, c) ∈ cellsFrom n names acc
  | (m, k) :: r, n, acc, x, h => by
    unfold cellsFrom
    rcases List.mem_cons.mp h with e | h
    · cases e
      exact ⟨n, cells_acc List.mem_cons_self⟩
    · split
      · exact cells_has h
      · exact cells_has h
theorem cells_inj : ∀ {names : List (Str × NameKind)} {h : Heap} {acc : List (Str × Addr)} {x y : Str} {c : Addr}, (∀ p ∈ acc, p.2 < h.objs.size) → (∀ x y c, (x, c) ∈ acc → (y, c) ∈ acc → x = y) →
    (x, c) ∈ cellsFrom h.objs.size names acc → (y, c) ∈ cellsFrom h.objs.size names acc → x = y
  | [], _, _, _, _, _, _, hi, h1, h2 => hi _ _ _ h1 h2
  | (n, k) :: r, h, acc, x, y, c, hl, hi, h1, h2 => by
    unfold cellsFrom at h1 h2
    split at h1
    · rename_i hk
      rw [if_pos hk] at h2
      rw [← Heap.size_push h { cls := .type "cell", data := .cell none }] at h1 h2
      refine cells_inj (h := h.push _) (fun p hp => ?_) (fun x y c a b => ?_) h1 h2
      · rw [Heap.size_push]
        rcases List.mem_cons.mp hp with rfl | hp
        · exact Nat.lt_succ_self _
        · exact Nat.lt_succ_of_lt (hl p hp)
      · rcases List.mem_cons.mp a with e | a <;> rcases List.mem_cons.mp b with e' | b
        · cases e; cases e'; rfl
        · cases e; exact absurd (hl _ b) (Nat.lt_irrefl _)
        · cases e'; exact absurd (hl _ a) (Nat.lt_irrefl _)
        · exact hi _ _ _ a b
    · rename_i hk
      rw [if_neg hk] at h2
      exact cells_inj hl hi h1 h2
theorem newEnv_comp {M : Model} {A : Around} {E : Value → Shared → Prop} {s : Shared} {scope : Scope} {globals : Addr} {closure : List (Str × Addr)} {qual : Str} {func : Option Addr} {code : Value} {around : Env} {builtins : Addr} {Q : Env → Shared → Prop}
    (h : Q (newEnv scope s.heap.objs.size globals (cellsFrom (s.heap.objs.size + 1) scope.names closure) qual func code (some around) builtins)
      { s with heap := pushCells (s.heap.push { cls := .type "dict", data := .dict #[] }) scope.names }) :
    wpAny M A (newFunctionEnv scope globals closure [] qual func code (some around) builtins) Q E s := by
  simp only [newFunctionEnv, Option.isSome_some, if_true]
  refine wpAny_bind (wpAny_alloc ?_)
  refine wpAny_bind (wpAny_layCells _ (fun n k c => rfl) scope.names closure _ _ ?_)
  rw [show ({ s with heap := s.heap.push { cls := .type "dict", data := .dict #[] } } : Shared).heap.objs.size = s.heap.objs.size + 1 from Heap.size_push ..]
  rw [List.forIn_nil]
  exact wpAny_bind (wpAny_pure (wpAny_pure h))
theorem lookup_relS {sc : Scope} : ∀ {names : List (Str × NameKind)} {x : Str} {k : NameKind},
    (names.map fun (n, k) => if (k == NameKind.free && sc.kind == .function && sc.names.lookup n == some .cell) then (n, NameKind.cell) else (n, k)).lookup x = some k →
    ∃ k', names.lookup x = some k' ∧ (k = k' ∨ (k' = .free ∧ k = .cell))
  | [], _, _, h => by simp at h
  | (n, k₀) :: r, x, k, h => by
    have ih := @lookup_relS sc r x k
    have h' : List.lookup x ((if (k₀ == NameKind.free && sc.kind == .function && sc.names.lookup n == some .cell) = true then (n, NameKind.cell) else (n, k₀)) :: (r.map _)) = some k := h
    cases hx : x == n with
    | true =>
      simp only [List.lookup_cons, hx]
      by_cases hc : (k₀ == NameKind.free && sc.kind == .function && sc.names.lookup n == some .cell) = true
      · rw [if_pos hc] at h'
        simp only [List.lookup_cons, hx] at h'
        cases h'
        simp only [Bool.and_eq_true, beq_iff_eq] at hc
        exact ⟨k₀, rfl, .inr ⟨hc.1.1, rfl⟩⟩
      · rw [if_neg hc] at h'
        simp only [List.lookup_cons, hx] at h'
        cases h'
        exact ⟨_, rfl, .inl rfl⟩
    | false =>
      simp only [List.lookup_cons, hx]
      by_cases hc : (k₀ == NameKind.free && sc.kind == .function && sc.names.lookup n == some .cell) = true
      · rw [if_pos hc] at h'
        simp only [List.lookup_cons, hx] at h'
        exact ih h'
      · rw [if_neg hc] at h'
        simp only [List.lookup_cons, hx] at h'
        exact ih h'
structure BlkOk (N : List Str) (sc scope : Scope) (own : List (Str × Nat)) : Prop where
  kind : scope.kind = .function
  uniq : ∀ y ∈ scope.names, scope.names.lookup y.1 = some y.2
  ix : ∀ p ∈ own, N[p.2]? = some p.1
  free : ∀ y ∈ scope.names, y.2 = .free → sc.names.lookup y.1 = some .cell ∨ sc.names.lookup y.1 = some .free
  own : ∀ y ∈ scope.names, y.2 = .local ∨ y.2 = .cell → y.1 ∈ own.map (·.1) ∨ y.1 ∉ N
def wipe (σ : St) : List Nat → St
  | [] => σ
  | v :: vs => (wipe σ vs).set v none
theorem wipe_length (σ : St) : ∀ vs : List Nat, (wipe σ vs).length = σ.length
  | [] => rfl
  | v :: vs => by unfold wipe; rw [List.length_set, wipe_length σ vs]
theorem wipe_some {σ : St} {i : Nat} {x : V} : ∀ {vs : List Nat}, (wipe σ vs)[i]? = some (some x) → σ[i]? = some (some x) ∧ i ∉ vs
  | [], h => ⟨h, by simp⟩
  | v :: vs, h => by
    unfold wipe at h
    by_cases hi : v = i
    · subst hi
      by_cases hv : v < (wipe σ vs).length
      · rw [List.getElem?_set_self hv] at h; cases h
      · rw [List.getElem?_eq_none (by simpa using hv)] at h; cases h
    · rw [List.getElem?_set_ne hi] at h
      obtain ⟨h1, h2⟩ := wipe_some h
      exact ⟨h1, by simp only [List.mem_cons, not_or]; exact ⟨fun e => hi e.symm, h2⟩⟩
abbrev Cx.blk (X : Cx) (s : Shared) (H : Hp) (scope : Scope) (cenv : Env) (fp : List Addr) : Cx := { X with s_0 := s, H_0 := H, env := cenv, outer := X.stack, ex := fp, fn := fun x => scope.names.lookup x == some .cell, pn := [], xe := fun _ _ => False }
section
variable {X : Cx} {pins : List (Addr × Obj)} {σ : St} {H : Hp} {s : Shared}
theorem block_start {scope : Scope} {own : List (Str × Nat)} {fp : List Addr} (I : Inv X pins σ H s) (ok : BlkOk X.N X.env.scope scope own) (hN : X.N.Nodup) (hfp : ∀ b ∈ fp, FpOk X pins H b ∧ b < s.heap.objs.size) :
    Inv (X.blk s H scope (compEnvC scope (cellsFrom (s.heap.objs.size + 1) scope.names (cloFrom X.env.cells scope.names [])) s.heap.objs.size X.env) fp) [] (wipe σ (own.map (·.2))) H { s with heap := pushCells (s.heap.push { cls := .type "dict", data := .dict #[] }) scope.names } := by
  have hfree : ∀ y ∈ scope.names, y.2 = .free → ∃ c, X.env.cells.lookup y.1 = some c := fun y hy e => by
    rcases ok.free y hy e with k | k
    · exact I.ok.has _ (.inl k)
    · exact I.ok.has _ (.inr k)
  generalize hcenv : compEnvC scope (cellsFrom (s.heap.objs.size + 1) scope.names (cloFrom X.env.cells scope.names [])) s.heap.objs.size X.env = cenv
  have kp : ∀ b o, s.heap.get? b = some o → (pushCells (s.heap.push { cls := .type "dict", data := .dict #[] }) scope.names).get? b = some o := fun b o e => pushCells_keeps _ _ _ _ (Heap.get?_push_of_some _ e)
  have hL : cenv.locals = s.heap.objs.size := by rw [← hcenv]; rfl
  have hcl : cenv.cells = cellsFrom (s.heap.objs.size + 1) scope.names (cloFrom X.env.cells scope.names []) := by rw [← hcenv]; rfl
  have hsc : cenv.scope = relS scope X.env.scope := by rw [← hcenv]; rfl
  rw [← Heap.size_push s.heap { cls := .type "dict", data := .dict #[] }] at hcl
  have cm : ∀ {y c}, (y, c) ∈ cloFrom X.env.cells scope.names [] → X.env.cells.lookup y = some c ∧ c < s.heap.objs.size := fun {y c} hm => by
    rcases cloFrom_mem hm with hm | ⟨h1, rfl⟩
    · cases hm
    · obtain ⟨c, hc⟩ := hfree _ h1 rfl
      rw [hc]
      obtain ⟨w, z⟩ := I.cell _ _ hc
      exact ⟨rfl, z.lt⟩
  have mem : ∀ {y c}, cenv.cells.lookup y = some c → (X.env.cells.lookup y = some c ∧ c < s.heap.objs.size) ∨ (s.heap.objs.size + 1 ≤ c ∧ CellAt (pushCells (s.heap.push { cls := .type "dict", data := .dict #[] }) scope.names) c none) := fun {y c} e => by
    rw [hcl] at e
    rcases cells_mem (PySem.mem_of_lookup e) with hm | ⟨_, h2, h3⟩
    · exact .inl (cm hm)
    · rw [Heap.size_push] at h2; exact .inr ⟨h2, h3⟩
  have look : ∀ {y}, scope.names.lookup y = some .free → ∃ c, cenv.cells.lookup y = some c ∧ X.env.cells.lookup y = some c := fun {y} hl => by
    have hy : (y, NameKind.free) ∈ scope.names := PySem.mem_of_lookup hl
    obtain ⟨c', e'⟩ := mem_lookup (cells_acc (names := scope.names) (n := (s.heap.push { cls := .type "dict", data := .dict #[] }).objs.size) (cloFrom_has (cells := X.env.cells) (acc := []) hy))
    rw [← hcl] at e'
    refine ⟨c', e', ?_⟩
    rw [hcl] at e'
    rcases cells_mem (PySem.mem_of_lookup e') with hm | ⟨h1, _, _⟩
    · exact (cm hm).1
    · have := ok.uniq _ h1
      rw [hl] at this; cases this
  have okB : (X.blk s H scope cenv fp).Ok := by
    refine ⟨I.ok.mod, by show cenv.scope.kind = _; rw [hsc]; exact ok.kind, by show cenv.globals = _; rw [← hcenv]; exact I.ok.glob, by show cenv.builtins = _; rw [← hcenv]; exact I.ok.blt, by show s.heap.objs.size ≤ cenv.locals; rw [hL]; exact Nat.le_refl _,
      fun y z c e1 e2 => ?_, fun y hy => ?_, fun y c z e => ?_, I.ok.hd, I.ok.frames, .inl rfl, fun b hb => ⟨?_, fun y c e z => ?_⟩, I.bs, Nat.le_trans I.ok.bsz I.sz, fun b o e hb => ?_, fun b hb z => ?_, I.stack, I.stkFree⟩
    · have e1 : cenv.cells.lookup y = some c := e1
      have e2 : cenv.cells.lookup z = some c := e2
      rw [hcl] at e1 e2
      refine cells_inj (fun p hp => ?_) (fun y z c a b => I.ok.inj y z c (cm a).1 (cm b).1) (PySem.mem_of_lookup e1) (PySem.mem_of_lookup e2)
      rw [Heap.size_push]
      exact Nat.lt_succ_of_lt (cm (y := p.1) (c := p.2) hp).2
    · show ∃ c, cenv.cells.lookup y = some c
      have key : ∀ k, cenv.kindOf y = some k → (k = .cell ∨ k = .free) → ∃ c, cenv.cells.lookup y = some c := fun k hk hk' => by
        unfold Env.kindOf at hk
        rw [hsc] at hk
        obtain ⟨k', e, r⟩ := lookup_relS hk
        have : k' = .cell ∨ k' = .free := by
          rcases r with rfl | ⟨rfl, _⟩
          · exact hk'
          · exact .inr rfl
        rcases this with rfl | rfl
        · obtain ⟨c, hm⟩ := cells_has (n := (s.heap.push { cls := .type "dict", data := .dict #[] }).objs.size) (acc := cloFrom X.env.cells scope.names []) (PySem.mem_of_lookup e)
          obtain ⟨c', e'⟩ := mem_lookup hm
          exact ⟨c', by rw [hcl]; exact e'⟩
        · obtain ⟨c, h1, _⟩ := look e
          exact ⟨c, h1⟩
      rcases hy with hy | hy
      · exact key _ hy (.inl rfl)
      · exact key _ hy (.inr rfl)
    · have z : (scope.names.lookup y == some NameKind.cell) = true := z
      have z : scope.names.lookup y = some .cell := by simpa using z
      have e : cenv.cells.lookup y = some c := e
      rw [hcl] at e
      rcases cells_mem (PySem.mem_of_lookup e) with hm | ⟨_, h2, _⟩
      · rcases cloFrom_mem hm with hm | ⟨h1, _⟩
        · cases hm
        · have q := ok.uniq _ h1
          rw [z] at q; cases q
      · rw [Heap.size_push] at h2
        exact Nat.le_of_succ_le h2
    · show b ≠ cenv.locals
      rw [hL]; exact Nat.ne_of_lt (hfp b hb).2
    · have e : cenv.cells.lookup y = some c := e
      rcases mem e with ⟨h1, _⟩ | ⟨h1, _⟩
      · exact (hfp b hb).1.2.2.2.2.1 y c h1 z
      · have h2 : s.heap.objs.size + 1 ≤ b := by rw [← z]; exact h1
        exact absurd (Nat.lt_of_lt_of_le (hfp b hb).2 (Nat.le_of_succ_le h2)) (Nat.lt_irrefl _)
    · rcases (hfp b hb).1.2.2.2.1 with z | z
      · exact I.ok.noex b o e z
      · exact absurd (Nat.lt_of_lt_of_le (Heap.lt_size e) (Nat.le_trans I.ok.bsz z)) (Nat.lt_irrefl _)
    · rcases List.mem_cons.mp (I.stkSub b z) with z | z
      · exact (hfp b hb).1.2.1 z
      · exact (hfp b hb).1.2.2.1 z
  refine ⟨okB, rfl, I.bare, Un.kept kp, ⟨fun _ => none, ?_, fun i y av e1 e2 e3 => ?_⟩, fun y c e => ?_, ?_, fun y c e => ?_, fun p hp => ?_, I.hok.kept kp, by rw [wipe_length]; exact I.len⟩
  · show Heap.Ns _ cenv.locals _
    rw [hL]
    exact Heap.Ns.keeps (Heap.Ns.new ..) fun b o e => pushCells_keeps _ _ _ _ e
  · obtain ⟨e2, hne⟩ := wipe_some e2
    have hfr : scope.names.lookup y = some .free ∧ (cenv.kindOf y = some .cell ∨ cenv.kindOf y = some .free) := by
      have key : ∀ k, cenv.scope.names.lookup y = some k → k = .local ∨ k = .cell ∨ k = .free → scope.names.lookup y = some .free ∧ (cenv.kindOf y = some .cell ∨ cenv.kindOf y = some .free) := fun k hk hk' => by
        have hk0 := hk
        rw [hsc] at hk
        obtain ⟨k', e, r⟩ := lookup_relS hk
        have no : ¬ (k' = .local ∨ k' = .cell) := fun hh => by
          rcases ok.own _ (PySem.mem_of_lookup e) hh with e' | e'
          · obtain ⟨p, hp, hpy⟩ := List.mem_map.mp e'
            have e3 := ok.ix p hp
            have : p.1 = y := hpy
            rw [this] at e3
            exact hne (List.mem_map.mpr ⟨p, hp, nodup_ix hN e3 e1⟩)
          · exact e' (List.mem_of_getElem? e1)
        rcases r with rfl | ⟨rfl, rfl⟩
        · rcases hk' with rfl | rfl | rfl
          · exact absurd (.inl rfl) no
          · exact absurd (.inr rfl) no
          · exact ⟨e, .inr hk0⟩
        · exact ⟨e, .inl hk0⟩
      have e3 : Vis cenv.scope y := e3
      rcases e3 with e3 | e3 | e3
      · exact key _ e3 (.inl rfl)
      · exact key _ e3 (.inr (.inl rfl))
      · exact key _ e3 (.inr (.inr rfl))
    obtain ⟨m, hn, hl⟩ := I.loc
    have hvis : Vis X.env.scope y := (ok.free _ (PySem.mem_of_lookup hfr.1) rfl).elim (fun k => .inr (.inl k)) (fun k => .inr (.inr k))
    obtain ⟨w, r, q⟩ := hl i y av e1 e2 hvis
    refine ⟨w, r, .inr ⟨hfr.2, ?_⟩⟩
    obtain ⟨c, h1, h2⟩ := look hfr.1
    rcases q with ⟨k, _⟩ | ⟨_, c', e', z⟩
    · have k : X.env.scope.names.lookup y = some .local := k
      rcases ok.free _ (PySem.mem_of_lookup hfr.1) rfl with k' | k' <;> rw [show X.env.scope.names.lookup y = _ from k'] at k <;> cases k
    · rw [h2] at e'; cases e'
      exact ⟨c, h1, z.keeps kp⟩
  · have e : cenv.cells.lookup y = some c := e
    rcases mem e with ⟨h1, _⟩ | ⟨_, z⟩
    · obtain ⟨w, z⟩ := I.cell y c h1
      exact ⟨w, z.keeps kp⟩
    · exact ⟨_, z⟩
  · show H cenv.locals = none
    rw [hL]; exact I.hok.fresh (Nat.le_refl _)
  · have e : cenv.cells.lookup y = some c := e
    rcases mem e with ⟨h1, _⟩ | ⟨h1, _⟩
    · exact I.freeC y c h1
    · exact I.hok.fresh (Nat.le_of_succ_le h1)
  · exact absurd (show p ∈ ([] : List (Addr × Obj)) ++ [] from hp) (by simp)
theorem app_ok {E : Value → Shared → Prop} {D : Addr} {xs : List V} {y : V} {v : Value} {Q : Value → Shared → Prop} (I : Inv X pins σ H s) (hD : H D = some (.lst xs)) (hz : xs.length < sizeLine) (r : RelV y v)
    (h : ∀ s', Inv X pins σ (upd H D (.lst (xs ++ [y]))) s' → Q .none s') : wpAny (model X.prog X.w) X.A (call (.builtin "list.append") [.ref D, v]) Q E s := by
  obtain ⟨hz', its, n, ri, e⟩ := I.hok D _ hD
  have hl := ri.length
  refine append_at (hsz := by rw [List.size_toArray]; omega) e fun h' sb ho' => ?_
  refine h { s with heap := h' } (I.write (t' := s.toks) (by rw [hD]; trivial) (.inl rfl) (fun b u hb q => (sb.2 b hb).trans q) ⟨_, ho'⟩ ⟨by rw [List.length_append]; exact hz, its ++ [v], n + 1, ri.append (.cons r .nil), ?_⟩)
  rw [ho']
  simp
def PTs (X : Cx) (ifs : List Expr) (t : TT) : Prop :=
  ∀ (pins : List (Addr × Obj)) (s : Shared) (σ : St) (H : Hp) (Q : Bool → Hp → Prop), Inv X pins σ H s → t σ H Q →
    wpAny (model X.prog X.w) X.A (forIn ifs true fun c r => if r = true then do let ok ← isTrue c X.env (eval c X.env); pure (ForInStep.yield ok) else pure (ForInStep.yield r)) (TP X pins σ Q) X.xe s
def tYes : TT := fun _ H Q => Q true H
theorem pts_nil : PTs X [] tYes := fun _ _ _ H _ I h => wpAny_tests_nil ⟨H, I, h⟩
theorem pts_one {c : Expr} {t : TT} (h : PT X c t) : PTs X [c] t := fun pins s σ H Q I hw => wpAny_tests_one (h pins s σ H Q I hw)
end
theorem thnF {α : Type} {t : Sem α} {Q Q' : α → Shared → Prop} {M : Model} {A : Around} {E : Value → Shared → Prop} {s : Shared} (h : wpAny M A t Q (fun _ _ => False) s) (hQ : ∀ a s, Q a s → Q' a s) : wpAny M A t Q' E s := wpAny_mono h hQ fun _ _ z => False.elim z
theorem compLoop_any {prog : Program} {w : World} {A : Around} {R : Result → Shared → Prop} {s : Shared} {elt target iter : Expr} {ifs : List Expr} {scope : Scope} {pos : Pos} {it acc : Value} {env : Env} (I : Nat → Shared → Prop)
    (turn : ∀ n s, I n s → wpAny (model prog w) A (pyNext it) (fun r s₁ => match r with
      | none => R (.ok .next) s₁
      | some v => wpAny (model prog w) A (letOwnedTupleGo target it v) (fun _ s₁' => wpAny (model prog w) A (assign target env v) (fun _ s₂ =>
          wpAny (model prog w) A (forIn ifs true fun c r => if r = true then do let ok ← isTrue c env (eval c env); pure (ForInStep.yield ok) else pure (ForInStep.yield r)) (fun ok s₃ =>
            if ok = true then wpAny (model prog w) A (eval elt env) (fun x s₄ =>
              wpAny (model prog w) A (call (.builtin "list.append") [acc, x]) (fun _ s₅ => ∃ m, m < n ∧ I m s₅) (notedBy (model prog w) A env fun e s' => R (.error e) s') s₄) (notedBy (model prog w) A env fun e s' => R (.error e) s') s₃
            else ∃ m, m < n ∧ I m s₃) (notedBy (model prog w) A env fun e s' => R (.error e) s') s₂) (notedBy (model prog w) A env fun e s' => R (.error e) s') s₁') (notedBy (model prog w) A env fun e s' => R (.error e) s') s₁) (notedBy (model prog w) A env fun e s' => R (.error e) s') s)
    (n : Nat) (h : I n s) :
    codeAny (model prog w) A (.compLoop (.ListComp elt [⟨target, iter, ifs, 0⟩] scope pos) 0 it acc env) R s := by
  refine codeAny_loop rfl I (fun n s hI => ?_) n h
  show wpAny _ A ((compTurn (.ListComp elt [⟨target, iter, ifs, 0⟩] scope pos) 0 it acc env).onRaise (fun x => do noteFrame x env; theTreesLotGoes x)) _ _ s
  refine wpAny_noted ?_
  rw [compTurn_list]
  refine wpAny_bind (wpAny_standAt (wpAny_bind (wpAny_mono (turn n s hI) (fun r s₁ h₁ => ?_) fun _ _ h' => h')))
  cases r with
  | none => exact wpAny_pure h₁
  | some v =>
    refine wpAny_bind (wpAny_mono h₁ (fun _ s₁' h₁' => ?_) fun _ _ h' => h')
    refine wpAny_bind (wpAny_mono h₁' (fun _ s₂ h₂ => wpAny_bind (wpAny_mono h₂ (fun ok s₃ h₃ => ?_) fun _ _ h' => h')) fun _ _ h' => h')
    cases ok with
    | false => exact wpAny_pure ⟨rfl, h₃⟩
    | true =>
      exact wpAny_bind (wpAny_bind (wpAny_mono h₃ (fun x s₄ h₄ => wpAny_bind (wpAny_mono h₄ (fun _ s₅ h₅ => wpAny_pure (wpAny_pure ⟨rfl, h₅⟩)) fun _ _ h' => h')) fun _ _ h' => h'))
section
variable {X : Cx}
def tLc (wi : TI) (g : TG) (tt : TT) (te : TE) (vs : List Nat) : TE := fun σ H Q => wi σ H fun J H1 => ∀ D, H1 D = none → ∃ W : Nat → Nat → Hp → Prop, (∃ m, W 0 m (upd H1 D (.lst []))) ∧ ∀ i m H, W i m H →
  (J.stop i H ∧ Q (.ref D) H) ∨ (J.go i H ∧ ∃ Nx : Hp → Prop, (∀ H', Nx H' → ∃ m', m' < m ∧ W (i + 1) m' H') ∧ ∀ x H', J.yld i H x H' → g x (wipe σ vs) H' fun σ2 H2 => wipe σ2 vs = wipe σ vs ∧ tt σ2 H2 fun b H3 =>
    if b = true then te σ2 H3 fun y H4 => ∃ acc, H4 D = some (.lst acc) ∧ acc.length < sizeLine ∧ Nx (upd H4 D (.lst (acc ++ [y]))) else Nx H3)
theorem lc_core {pins : List (Addr × Obj)} {s : Shared} {σ : St} {H : Hp} {Q : VK} {elt tg iter : Expr} {ifs : List Expr} {scope : Scope} {own : List (Str × Nat)} {pos pos' : Pos} {wi : TI} {g : TG} {tt : TT} {te : TE} {use : Option (Value → Sem Unit)} {Qf : Value → Shared → Prop}
    (hc : X.calm = true) (hN : X.N.Nodup) (I : Inv X pins σ H s) (hi : PI X tg iter wi) (ok : BlkOk X.N X.env.scope scope own)
    (hg : ∀ (s : Shared) (H : Hp) (C : Addr) (cl : List (Str × Addr)) (fp : List Addr), PG (X.blk s H scope (compEnvC scope cl C X.env) fp) tg g) (ht : ∀ (s : Shared) (H : Hp) (C : Addr) (cl : List (Str × Addr)) (fp : List Addr), PTs (X.blk s H scope (compEnvC scope cl C X.env) fp) ifs tt)
    (he : ∀ (s : Shared) (H : Hp) (C : Addr) (cl : List (Str × Addr)) (fp : List Addr), PE (X.blk s H scope (compEnvC scope cl C X.env) fp) elt te) (hs : ∀ x, foldedSetIterable iter X.env x = pure x)
    (h : tLc wi g tt te (own.map (·.2)) σ H Q)
    (hRR : ∀ D C s' m H', Inv X pins σ H' s' → Q (.ref D) H' → s'.heap.Ns C m → FpOk X pins H' C → compPost (model X.prog X.w) X.A X.xe use Qf (.ref D) C (.ok .next) s') :
    wpAny (model X.prog X.w) X.A (comprehension (.ListComp elt [⟨tg, iter, ifs, 0⟩] scope pos) scope X.env pos' (newList []) false (eval iter X.env) use) Qf X.xe s := by
  have hfree : ∀ y ∈ scope.names, y.2 = .free → ∃ c, X.env.cells.lookup y.1 = some c := fun y hy e => by
    rcases ok.free y hy e with k | k
    · exact I.ok.has _ (.inl k)
    · exact I.ok.has _ (.inr k)
  refine wpAny_comprehension_free (use := use) rfl hs (closure_ok hfree) ok.kind (fun y hy e => by rw [ok.uniq y hy, e])
    (thn (hi pins s σ H _ I h) fun xv s1 hx => thn hx fun itv s2 h2 => ?_)
  obtain ⟨it, fp, tn, J, H2, e, I2, T, st2, f2, q⟩ := h2
  subst e
  refine wpAny_newObj_type (newEnv_comp ?_) (by show 0 ≤ sizeLine; decide)
  generalize hD : s2.heap.objs.size = D
  have hDn : H2 D = none := I2.hok.fresh (Nat.le_of_eq hD)
  obtain ⟨W, ⟨m0, w0⟩, turn⟩ := q D hDn
  generalize hs3 : ({ s2 with heap := s2.heap.push { cls := .type "list", data := .seq ([] : List Value).toArray } } : Shared) = s3
  have I3 : Inv X pins σ (upd H2 D (.lst [])) s3 := by
    rw [← hs3]
    refine I2.laid (t' := s2.toks) (fun b o e => Heap.get?_push_of_some _ e) (Nat.le_of_eq hD) ⟨Nat.zero_le _, [], 0, .nil, ?_⟩
    rw [← hD]
    exact Heap.get?_push_size _ rfl
  have h3 : s3.heap = s2.heap.push { cls := .type "list", data := .seq ([] : List Value).toArray } := by rw [← hs3]
  have sz : ∀ b ∈ fp, b < s2.heap.objs.size := fun b hb => by
    obtain ⟨o, e, _⟩ := T.obj _ _ st2 b hb
    exact Heap.lt_size e
  have f3 : ∀ b ∈ fp, FpOk X pins (upd H2 D (.lst [])) b ∧ b < s3.heap.objs.size := fun b hb => by
    have hlt := sz b hb
    refine ⟨⟨?_, (f2 b hb).2⟩, by rw [h3, Heap.size_push]; exact Nat.lt_succ_of_lt hlt⟩
    rw [upd_ne (by rw [← hD]; exact Nat.ne_of_lt hlt)]
    exact (f2 b hb).1
  have st3 : tn 0 s3.heap := T.keep _ _ _ st2 fun b _ o e => by rw [h3]; exact Heap.get?_push_of_some _ e
  have I4 := block_start I3 ok hN f3
  have pg := hg s3 (upd H2 D (.lst [])) s3.heap.objs.size (cellsFrom (s3.heap.objs.size + 1) scope.names (cloFrom X.env.cells scope.names [])) fp
  have pt := ht s3 (upd H2 D (.lst [])) s3.heap.objs.size (cellsFrom (s3.heap.objs.size + 1) scope.names (cloFrom X.env.cells scope.names [])) fp
  have pe := he s3 (upd H2 D (.lst [])) s3.heap.objs.size (cellsFrom (s3.heap.objs.size + 1) scope.names (cloFrom X.env.cells scope.names [])) fp
  show codeAny _ _ (.compStart (.ListComp elt [⟨tg, iter, ifs, 0⟩] scope pos) 0 (.ref it) (.ref D) (compEnvC scope (cellsFrom (s3.heap.objs.size + 1) scope.names (cloFrom X.env.cells scope.names [])) s3.heap.objs.size X.env)) (compPost (model X.prog X.w) X.A X.xe use Qf (.ref D) s3.heap.objs.size) { s3 with heap := pushCells (s3.heap.push { cls := .type "dict", data := .dict #[] }) scope.names }
  have nfp : ∀ b ∈ fp, (upd H2 D (.lst [])) b = none := fun b hb => (f3 b hb).1.1
  generalize hce : compEnvC scope (cellsFrom (s3.heap.objs.size + 1) scope.names (cloFrom X.env.cells scope.names [])) s3.heap.objs.size X.env = ce at I4 pg pt pe ⊢
  have cL : ce.locals = s3.heap.objs.size := by subst hce; rfl
  generalize hH3 : upd H2 D (.lst []) = H3 at I3 I4 pg pt pe w0 nfp f3
  generalize hs4 : ({ s3 with heap := pushCells (s3.heap.push { cls := .type "dict", data := .dict #[] }) scope.names } : Shared) = s4 at I4 ⊢
  have st4 : tn 0 s4.heap := T.keep _ _ _ st3 fun b _ o e => by rw [← hs4]; exact pushCells_keeps _ _ _ _ (Heap.get?_push_of_some _ e)
  have stat : ∀ {σ' : St} {H' : Hp} {s' : Shared}, Inv (X.blk s3 H3 scope ce fp) [] σ' H' s' → (∀ b ∈ fp, H' b = none) → ∀ b ∈ fp, FpOk (X.blk s3 H3 scope ce fp) [] H' b := fun {σ' H' s'} I' hn b hb =>
    ⟨hn b hb, (I'.ok.exf b hb).1, I'.ok.exfs b hb, .inl hb, fun x c e => (I'.ok.exf b hb).2 x c e, fun p hp => absurd (show p ∈ ([] : List (Addr × Obj)) ++ [] from hp) (by simp)⟩
  have loop : codeAny (model X.prog X.w) X.A (.compLoop (.ListComp elt [⟨tg, iter, ifs, 0⟩] scope pos) 0 (.ref it) (.ref D) ce) (compPost (model X.prog X.w) X.A X.xe use Qf (.ref D) s3.heap.objs.size) s4 := by
    refine compLoop_any (fun n s' => ∃ i H', Inv (X.blk s3 H3 scope ce fp) [] (wipe σ (own.map (·.2))) H' s' ∧ tn i s'.heap ∧ (∀ b ∈ fp, H' b = none) ∧ W i n H') ?_ m0 ⟨0, H3, I4, st4, nfp, w0⟩
    rintro n s5 ⟨i, H5, I5, st5, n5, w5⟩
    rcases turn i n H5 w5 with ⟨stop, qq⟩ | ⟨go, Nx, hNx, step⟩
    · have td := T.done (X.blk s3 H3 scope ce fp) rfl rfl rfl hc i [] s5 _ H5 (fun _ _ => False) I5 (stat I5 n5) st5 stop
      refine thnF td fun r s6 ⟨hr, I6⟩ => ?_
      subst hr
      have I7 : Inv X pins σ H5 s6 := I3.call' (ch := fp) I6.os I6.base I6.hok I6.bare fun b hb => ⟨(f3 b hb).1.2.2.2.1, (f3 b hb).1.2.1, (f3 b hb).1.2.2.2.2.1, (f3 b hb).1.2.2.2.2.2⟩
      have nC : H5 s3.heap.objs.size = none := by
        have z : H5 ce.locals = none := I6.free
        rw [cL] at z
        exact z
      obtain ⟨m, hn, _⟩ := I6.loc
      have hn : s6.heap.Ns ce.locals m := hn
      rw [cL] at hn
      exact hRR D s3.heap.objs.size s6 m H5 I7 qq hn (I3.fpOk (Nat.le_refl _) nC)
    · have ti := T.item (X.blk s3 H3 scope ce fp) rfl rfl rfl hc i [] s5 _ H5 (fun _ _ => False) I5 (stat I5 n5) st5 go
      refine thnF ti fun r s6 ⟨u, hr, h6⟩ => ?_
      subst hr
      refine thnF h6 fun _ s7 ⟨x, H7, I7, r7, y7, st7, n7⟩ => ?_
      have I7' := I7.pinned (stat I7 n7) (T.obj _ _ st7)
      refine thnF (pg _ s7 _ H7 x u _ I7' r7 (step x H7 y7)) fun _ s8 ⟨σ8, H8, I8, hw8, q8⟩ => ?_
      refine thnF (pt _ s8 σ8 H8 _ I8 q8) fun b s9 ⟨H9, I9, q9⟩ => ?_
      have fin : ∀ {s' : Shared} {H' : Hp}, Inv (X.blk s3 H3 scope ce fp) ([] ++ pinsAt fp s7.heap) σ8 H' s' → Nx H' → ∃ m, m < n ∧ ∃ i H', Inv (X.blk s3 H3 scope ce fp) [] (wipe σ (own.map (·.2))) H' s' ∧ tn i s'.heap ∧ (∀ b ∈ fp, H' b = none) ∧ W i m H' := fun {s' H'} I' nx => by
        obtain ⟨m', hm, w'⟩ := hNx H' nx
        have pin' : ∀ b ∈ fp, ∀ o, s7.heap.get? b = some o → s'.heap.get? b = some o ∧ H' b = none := fun b hb o e =>
          let z := I'.pin (b, o) (List.mem_append_right _ (List.mem_append_right _ (mem_pinsAt hb e)))
          ⟨z.1, z.2.1⟩
        have hl : (wipe σ (own.map (·.2))).length = σ8.length := by rw [← hw8, wipe_length]
        refine ⟨m', hm, i + 1, H', (I'.unpinned (pins := [])).weak hl (fun j v e => ?_), T.keep _ _ _ st7 fun b hb o e => (pin' b hb o e).1, fun b hb => ?_, w'⟩
        · rw [← hw8] at e
          exact (wipe_some e).1
        · obtain ⟨o, e, _⟩ := T.obj _ _ st7 b hb
          exact (pin' b hb o e).2
      cases b with
      | false =>
        simp only [Bool.false_eq_true, if_false] at q9 ⊢
        exact fin I9 q9
      | true =>
        simp only [if_true] at q9 ⊢
        refine thnF (pe _ s9 σ8 H9 _ I9 q9) fun z s10 ⟨yv, H10, I10, r10, acc, hD10, hz10, nx⟩ => ?_
        exact app_ok (X := X.blk s3 H3 scope ce fp) I10 hD10 hz10 r10 fun s11 I11 => fin I11 nx
  exact codeAny_compStart_list loop (T.self X.A 0 _ _ _ st4 loop)
theorem pe_lc {elt tg iter : Expr} {ifs : List Expr} {scope : Scope} {own : List (Str × Nat)} {pos : Pos} {wi : TI} {g : TG} {tt : TT} {te : TE} (hc : X.calm = true) (hN : X.N.Nodup) (hi : PI X tg iter wi) (ok : BlkOk X.N X.env.scope scope own)
    (hg : ∀ (s : Shared) (H : Hp) (C : Addr) (cl : List (Str × Addr)) (fp : List Addr), PG (X.blk s H scope (compEnvC scope cl C X.env) fp) tg g) (ht : ∀ (s : Shared) (H : Hp) (C : Addr) (cl : List (Str × Addr)) (fp : List Addr), PTs (X.blk s H scope (compEnvC scope cl C X.env) fp) ifs tt)
    (he : ∀ (s : Shared) (H : Hp) (C : Addr) (cl : List (Str × Addr)) (fp : List Addr), PE (X.blk s H scope (compEnvC scope cl C X.env) fp) elt te) (hs : ∀ x, foldedSetIterable iter X.env x = pure x := by intro _; rfl) :
    PE X (.ListComp elt [⟨tg, iter, ifs, 0⟩] scope pos) (tLc wi g tt te (own.map (·.2))) := by
  intro pins s σ H Q I h
  rw [eval_ListComp]
  refine lc_core hc hN I hi ok hg ht he hs h fun D C s' m H' I' q hn f => ⟨m, hn, fun h'' sb => ?_⟩
  obtain ⟨f0, f1, f2, f3, f4, f5⟩ := f
  exact ⟨.ref D, H', I'.turned (t' := s'.toks) (fun b o hb e => (sb.2 b hb).trans e) f0 f1 f3 f4 f5, rfl, q⟩
theorem ps_setLc {i : Nat} {y : Str} {py : Pos} {elt tg iter : Expr} {ifs : List Expr} {scope : Scope} {own : List (Str × Nat)} {pos spos : Pos} {wi : TI} {g : TG} {tt : TT} {te : TE} (hc : X.calm = true) (hN : X.N.Nodup) (hy : X.N[i]? = some y) (hyl : X.env.scope.names.lookup y = some .local)
    (hsw : swapsWith (.ListComp elt [⟨tg, iter, ifs, 0⟩] scope pos) (some (.Name y py)) spos.line X.env = pure true) (hi : PI X tg iter wi) (ok : BlkOk X.N X.env.scope scope own)
    (hg : ∀ (s : Shared) (H : Hp) (C : Addr) (cl : List (Str × Addr)) (fp : List Addr), PG (X.blk s H scope (compEnvC scope cl C X.env) fp) tg g) (ht : ∀ (s : Shared) (H : Hp) (C : Addr) (cl : List (Str × Addr)) (fp : List Addr), PTs (X.blk s H scope (compEnvC scope cl C X.env) fp) ifs tt)
    (he : ∀ (s : Shared) (H : Hp) (C : Addr) (cl : List (Str × Addr)) (fp : List Addr), PE (X.blk s H scope (compEnvC scope cl C X.env) fp) elt te) (hs : ∀ x, foldedSetIterable iter X.env x = pure x := by intro _; rfl) :
    PS X (.Assign [.Name y py] (.ListComp elt [⟨tg, iter, ifs, 0⟩] scope pos) spos) (tAsg (tLc wi g tt te (own.map (·.2))) (gName i)) := by
  intro pins s σ H D I h
  rw [exec_Assign_Name_used _ _ _ _ hsw]
  refine wpAny_bind (wpAny_standAt (wpAny_bind ?_))
  show wpAny _ X.A (do let _ ← comprehension (.ListComp elt [⟨tg, iter, ifs, 0⟩] scope pos) scope X.env (firstIterPos [⟨tg, iter, ifs, 0⟩] pos) (newList []) false (eval iter X.env) (some (assign (.Name y py) X.env))) _ _ s
  have h : tLc wi g tt te (own.map (·.2)) σ H (fun x H1 => gName i x σ H1 D.nx) := h
  refine wpAny_bind (thn (lc_core (Qf := fun _ s' => SP X pins D .next s') hc hN I hi ok hg ht he hs h fun L C s' m H' I' q hn f => ?_) fun _ s' hq => wpAny_pure (wpAny_pure hq))
  show wpAny _ _ (assign (.Name y py) X.env (.ref L)) _ _ _
  refine wpAny_assign_Name (store_ok2 (v := V.ref L) I' hN hy (.inl hyl) rfl (fun s2 I2 ⟨a, sb, ha⟩ => ?_) (.inr hyl))
  obtain ⟨f0, f1, f2, f3, f4, f5⟩ := f
  have haC : C ≠ a := by
    rcases ha with z | z
    · rw [z]; exact f1
    · exact fun e => f4 y a z e.symm
  refine ⟨m, hn.sameBut sb haC, fun h3 sb3 => ?_⟩
  exact ⟨_, H', I2.turned (t' := s2.toks) (fun b o hb e => (sb3.2 b hb).trans e) f0 f1 f3 f4 f5, q⟩
theorem sw_true {elt : Expr} {gs : List Comprehension} {scope : Scope} {pos py : Pos} {y : Str} {l : Nat} {env : Env} (hk : env.scope.kind = .function) (hy : env.scope.names.lookup y = some .local) (hl : (py.line == pos.line) = true)
    (ha : (scope.names.any fun (n, k) => n == y && (k == .local || k == .cell)) = false) : swapsWith (.ListComp elt gs scope pos) (some (.Name y py)) l env = pure true := by
  have ky : env.kindOf y = some .local := hy
  have hb : env.blockKind = .function := by unfold Env.blockKind; rw [hk]; rfl
  unfold swapsWith
  simp only [hb, ky, ha, Expr.pos, hl]
  rfl
end
theorem lc_list {K : PySem.W.Frag} {a : Addr} {xs : List V} {g : TG} {tt : TT} {te : TE} {vs : List Nat} {σ : St} {H1 : Hp} {D : Addr} {Qd : Hp → Prop} (Pv : Nat → Hp → Prop) (h0 : Pv 0 (upd H1 D (.lst []))) (hl : ∀ i H, i ≤ xs.length → Pv i H → SqL K H a xs)
    (hs : ∀ i x H, xs[i]? = some x → Pv i H → g x (wipe σ vs) H fun σ2 H2 => wipe σ2 vs = wipe σ vs ∧ tt σ2 H2 fun b H3 =>
      if b = true then te σ2 H3 fun y H4 => ∃ acc, H4 D = some (.lst acc) ∧ acc.length < sizeLine ∧ Pv (i + 1) (upd H4 D (.lst (acc ++ [y]))) else Pv (i + 1) H3) (hd : ∀ H, Pv xs.length H → Qd H) :
    ∃ W : Nat → Nat → Hp → Prop, (∃ m, W 0 m (upd H1 D (.lst []))) ∧ ∀ i m H, W i m H →
      ((Itl K a).stop i H ∧ Qd H) ∨ ((Itl K a).go i H ∧ ∃ Nx : Hp → Prop, (∀ H', Nx H' → ∃ m', m' < m ∧ W (i + 1) m' H') ∧ ∀ x H', (Itl K a).yld i H x H' → g x (wipe σ vs) H' fun σ2 H2 => wipe σ2 vs = wipe σ vs ∧ tt σ2 H2 fun b H3 =>
        if b = true then te σ2 H3 fun y H4 => ∃ acc, H4 D = some (.lst acc) ∧ acc.length < sizeLine ∧ Nx (upd H4 D (.lst (acc ++ [y]))) else Nx H3) := by
  refine ⟨fun i m H => m = xs.length - i ∧ i ≤ xs.length ∧ Pv i H, ⟨xs.length, by simp, Nat.zero_le _, h0⟩, ?_⟩
  rintro i m H ⟨rfl, hi, p⟩
  have q := hl i H hi p
  by_cases hlt : i < xs.length
  · refine .inr ⟨⟨xs, xs[i], q, by simp [hlt]⟩, Pv (i + 1), fun H' p' => ⟨xs.length - (i + 1), by omega, rfl, hlt, p'⟩, fun x H' y => ?_⟩
    obtain ⟨e, y⟩ := y
    subst e
    exact hs i x _ (y xs q) p
  · have e : i = xs.length := by omega
    subst e
    exact .inl ⟨⟨xs, q, Nat.le_refl _⟩, hd H p⟩
def blkC (N : List Str) (sc scope : Scope) (own : List (Str × Nat)) : Bool :=
  (match scope.kind with | .function => true | _ => false) && (scope.names.all fun y => decide (scope.names.lookup y.1 = some y.2)) && (own.all fun p => decide (N[p.2]? = some p.1)) &&
    (scope.names.all fun y => match y.2 with
      | .free => (match sc.names.lookup y.1 with | some .cell => true | some .free => true | _ => false)
      | .local => decide (y.1 ∈ own.map (·.1)) || decide (y.1 ∉ N)
      | .cell => decide (y.1 ∈ own.map (·.1)) || decide (y.1 ∉ N)
      | _ => true)
theorem blkOk_by {N : List Str} {sc scope : Scope} {own : List (Str × Nat)} (h : blkC N sc scope own = true) : BlkOk N sc scope own := by
  unfold blkC at h
  simp only [Bool.and_eq_true, List.all_eq_true, decide_eq_true_eq] at h
  obtain ⟨⟨⟨h1, h2⟩, h3⟩, h4⟩ := h
  refine ⟨?_, h2, h3, fun y hy e => ?_, fun y hy e => ?_⟩
  · split at h1
    · assumption
    · cases h1
  · have q := h4 y hy
    simp only [e] at q
    split at q <;> first | exact .inl (by assumption) | exact .inr (by assumption) | cases q
  · have q := h4 y hy
    rcases e with e | e <;> (simp only [e, Bool.or_eq_true, decide_eq_true_eq] at q; exact q)
end L2
namespace L2
open PySem PySem.Spec PyProof.Rows
section
variable {prog : Program} {w : World} {A : Around} {R : Result → Shared → Prop} {s : Shared} {elt t0 i0 t1 i1 : Expr} {ifs0 ifs1 : List Expr} {scope : Scope} {pos : Pos} {it acc : Value} {env : Env}
end
section
variable {X : Cx}
end
end L2
namespace L2
open PySem PySem.Spec PyProof.Rows
section
variable {κ : Type} [DecidableEq κ]
def valV (kvs : List (κ × V)) (k : κ) : Option V := (kvs.find? fun kv => decide (kv.1 = k)).map (·.2)
def putK (kvs : List (κ × V)) (k : κ) (v : V) : List (κ × V) :=
  if (kvs.any fun kv => decide (kv.1 = k)) = true then kvs.map (fun kv => if kv.1 = k then (kv.1, v) else kv) else kvs ++ [(k, v)]
theorem valV_pos {p : κ × V} {r : List (κ × V)} {k : κ} (e : p.1 = k) : valV (p :: r) k = some p.2 := by simp [valV, List.find?_cons, e]
theorem valV_neg {p : κ × V} {r : List (κ × V)} {k : κ} (e : ¬ p.1 = k) : valV (p :: r) k = valV r k := by simp [valV, List.find?_cons, e]
theorem valV_any (k : κ) : ∀ kvs : List (κ × V), (kvs.any fun kv => decide (kv.1 = k)) = (valV kvs k).isSome
  | [] => rfl
  | p :: r => by
    rw [List.any_cons]
    by_cases e : p.1 = k
    · simp only [valV_pos e, decide_eq_true e, Bool.true_or, Option.isSome_some]
    · rw [valV_neg e, decide_eq_false e, Bool.false_or]; exact valV_any k r
theorem valV_snoc (k j : κ) (y : V) : ∀ kvs : List (κ × V), valV kvs k = none → valV (kvs ++ [(k, y)]) j = if j = k then some y else valV kvs j
  | [], _ => by
    by_cases e : k = j
    · rw [if_pos e.symm]; exact valV_pos (p := (k, y)) e
    · rw [if_neg (fun z => e z.symm)]; exact valV_neg (p := (k, y)) e
  | p :: r, hn => by
    rw [List.cons_append]
    have hk : ¬ p.1 = k := fun z => by rw [valV_pos z] at hn; cases hn
    rw [valV_neg hk] at hn
    have ih := valV_snoc k j y r hn
    by_cases e : p.1 = j
    · rw [valV_pos e, valV_pos e, if_neg (fun z => hk (e.trans z))]
    · rw [valV_neg e, valV_neg e, ih]
theorem length_putK (kvs : List (κ × V)) (k : κ) (v : V) : (putK kvs k v).length ≤ kvs.length + 1 := by
  unfold putK
  split
  · rw [List.length_map]; omega
  · rw [List.length_append, List.length_cons, List.length_nil]; omega
theorem putK_new {kvs : List (κ × V)} {k : κ} (v : V) (h : valV kvs k = none) : putK kvs k v = kvs ++ [(k, v)] := by
  unfold putK
  rw [valV_any, h]
  exact if_neg (by decide)
theorem RelO.isSome_eq {o : Option V} {u : Option Value} (r : RelO o u) : o.isSome = u.isSome := by
  cases o with
  | none => cases u with
    | none => rfl
    | some _ => exact (show False from r).elim
  | some _ => cases u with
    | none => exact (show False from r).elim
    | some _ => rfl
theorem KV.val {kvs : List (κ × V)} {vs : List (κ × Value)} (r : KV kvs vs) (k : κ) : RelO (valV kvs k) (valueAt vs k) := by
  unfold KV at r
  induction r with
  | nil => exact True.intro
  | @cons p q ps qs h t ih =>
    obtain ⟨h1, h2⟩ := h
    by_cases e : p.1 = k
    · have e' : q.1 = k := h1.symm.trans e
      have b : valueAt (q :: qs) k = some q.2 := by simp [valueAt, List.find?_cons, e']
      rw [valV_pos e, b]; exact h2
    · have e' : ¬ q.1 = k := fun z => e (h1.trans z)
      have b : valueAt (q :: qs) k = valueAt qs k := by simp [valueAt, List.find?_cons, e']
      rw [valV_neg e, b]; exact ih
theorem KV.any {kvs : List (κ × V)} {vs : List (κ × Value)} (r : KV kvs vs) (k : κ) : (kvs.any fun kv => decide (kv.1 = k)) = vs.any fun kv => decide (kv.1 = k) := by
  unfold KV at r
  induction r with
  | nil => rfl
  | cons h t ih => rw [List.any_cons, List.any_cons, ih, h.1]
theorem KV.repl {kvs : List (κ × V)} {vs : List (κ × Value)} (r : KV kvs vs) (k : κ) {y : V} {u : Value} (ry : RelV y u) :
    KV (kvs.map fun kv => if kv.1 = k then (kv.1, y) else kv) (vs.map fun kv => if kv.1 = k then (kv.1, u) else kv) := by
  unfold KV at r ⊢
  induction r with
  | nil => exact .nil
  | @cons p q ps qs h t ih =>
    rw [List.map_cons, List.map_cons]
    refine .cons ?_ ih
    obtain ⟨h1, h2⟩ := h
    by_cases e : p.1 = k
    · rw [if_pos e, if_pos (h1.symm.trans e)]; exact ⟨h1, ry⟩
    · rw [if_neg e, if_neg (fun z => e (h1.trans z))]; exact ⟨h1, h2⟩
theorem KV.put {kvs : List (κ × V)} {vs : List (κ × Value)} (r : KV kvs vs) (k : κ) {y : V} {u : Value} (ry : RelV y u) : KV (putK kvs k y) (stored vs k u) := by
  unfold putK stored
  rw [r.any k]
  by_cases e : (vs.any fun kv => decide (kv.1 = k)) = true
  · rw [if_pos e, if_pos e]; exact r.repl k ry
  · rw [if_neg e, if_neg e]; exact Paired.snoc r ⟨rfl, ry⟩
theorem KV.length {kvs : List (κ × V)} {vs : List (κ × Value)} (r : KV kvs vs) : kvs.length = vs.length := Paired.length r
end
theorem kV_is {P : Program} {w : World} {k : Key} {u : Value} (r : RelV (kV k) u) : (mixKind P w).is k u = true := by
  cases k with
  | inl i => obtain ⟨t, e⟩ := (show ∃ t, u = Value.int i t from r); subst e; exact mixKind_int P w i t
  | inr x => obtain ⟨t, e⟩ := (show ∃ t, u = Value.str x t from r); subst e; exact mixKind_str P w x t
theorem items_are {P : Program} {w : World} : ∀ {ks : List Key} {us : List Value}, Vals (ks.map kV) us → ItemsAre (mixKind P w) ks us
  | [], _, r => by rw [List.map_nil] at r; cases r; exact .nil
  | k :: ks, _, r => by
    rw [List.map_cons] at r
    cases r with
    | cons h t => exact .cons (kV_is h) (items_are t)
abbrev KT (H : Hp) : List (List Key × V) → List (List Key × Addr × Value) → Prop := Paired fun p q => p.1 = q.1 ∧ H q.2.1 = some (.tup (p.1.map kV)) ∧ RelV p.2 q.2.2
theorem KT.val {H : Hp} {kvs : List (List Key × V)} {xs : List (List Key × Addr × Value)} (r : KT H kvs xs) (k : List Key) : RelO (valV kvs k) ((atKey xs k).map (·.2)) := by
  induction r with
  | nil => exact True.intro
  | @cons p q ps qs h t ih =>
    obtain ⟨h1, _, h2⟩ := h
    by_cases e : p.1 = k
    · have e' : q.1 = k := h1.symm.trans e
      have b : atKey (q :: qs) k = some q.2 := by simp [atKey, List.find?_cons, e']
      rw [valV_pos e, b]; exact h2
    · have e' : ¬ q.1 = k := fun z => e (h1.trans z)
      have b : atKey (q :: qs) k = atKey qs k := by simp [atKey, List.find?_cons, e']
      rw [valV_neg e, b]; exact ih
theorem KT.repl {H : Hp} {kvs : List (List Key × V)} {xs : List (List Key × Addr × Value)} (r : KT H kvs xs) (k : List Key) {y : V} {u : Value} (ry : RelV y u) :
    KT H (kvs.map fun kv => if kv.1 = k then (kv.1, y) else kv) (xs.map (putAt k u)) := by
  induction r with
  | nil => exact .nil
  | @cons p q ps qs h t ih =>
    rw [List.map_cons, List.map_cons]
    refine .cons ?_ ih
    obtain ⟨h1, h2, h3⟩ := h
    unfold putAt
    by_cases e : p.1 = k
    · rw [if_pos e, if_pos (h1.symm.trans e)]; exact ⟨h1, h2, ry⟩
    · rw [if_neg e, if_neg (fun z => e (h1.trans z))]; exact ⟨h1, h2, h3⟩
theorem KT.put {H : Hp} {kvs : List (List Key × V)} {xs : List (List Key × Addr × Value)} (r : KT H kvs xs) (k : List Key) {b : Addr} {y : V} {u : Value} (hb : H b = some (.tup (k.map kV))) (ry : RelV y u) :
    KT H (putK kvs k y) (storedH xs k b u) := by
  have e : (kvs.any fun kv => decide (kv.1 = k)) = (atKey xs k).isSome := by
    rw [valV_any, (r.val k).isSome_eq, Option.isSome_map]
  unfold putK storedH
  rw [e]
  by_cases q : (atKey xs k).isSome = true
  · rw [if_pos q, if_pos q]; exact r.repl k ry
  · rw [if_neg q, if_neg q]; exact Paired.snoc r ⟨rfl, hb, ry⟩
theorem KT.keeps {H H' : Hp} {kvs : List (List Key × V)} {xs : List (List Key × Addr × Value)} (r : KT H kvs xs) (ht : ∀ b ys, H b = some (.tup ys) → H' b = some (.tup ys)) : KT H' kvs xs :=
  Paired.mapP r fun _ _ z => ⟨z.1, ht _ _ z.2.1, z.2.2⟩
section
variable {P : Program} {w : World} {H : Hp} {h : Heap} {a : Addr}
theorem rd_of {u : HO} (ok : HOk P w H h) (e : Rd H a u) : ObjOk P w H h a u := e.ok ok
theorem dk_rd {kvs : List (Key × V)} (ok : HOk P w H h) (e : Rd H a (.dK kvs)) : kvs.length ≤ sizeLine ∧ (a == sysModules) = false ∧ ∃ vs, KV kvs vs ∧ h.DictOf (mixKind P w) a vs :=
  show ObjOk P w H h a (.dK kvs) from rd_of ok e
theorem dk_of {kvs : List (Key × V)} (ok : HOk P w H h) (e : H a = some (.dK kvs)) : kvs.length ≤ sizeLine ∧ (a == sysModules) = false ∧ ∃ vs, KV kvs vs ∧ h.DictOf (mixKind P w) a vs := dk_rd ok (.inl e)
theorem key_of {ks : List Key} (ok : HOk P w H h) (e : H a = some (.tup (ks.map kV))) : (tupleKind (mixKind P w)).is h ks a := by
  obtain ⟨_, its, r, o, h1, h2, n, h3⟩ := (show ObjOk P w H h a (.tup (ks.map kV)) from ok a _ e)
  exact ⟨o, its.toArray, n, h1, h2, h3, by simpa using items_are r⟩
theorem dt_rd {kvs : List (List Key × V)} (ok : HOk P w H h) (e : Rd H a (.dT kvs)) : kvs.length ≤ sizeLine ∧ (a == sysModules) = false ∧
    ∃ xs, KT H kvs xs ∧ h.DictOfH (tupleKind (mixKind P w)) a xs := by
  obtain ⟨z, y, xs, r, o, es, ep, h1, h2, h3, h4, h5⟩ := (show ObjOk P w H h a (.dT kvs) from rd_of ok e)
  refine ⟨z, y, xs, r, o, es, ep, h1, h2, h3, h4, fun x hx => ?_, h5⟩
  have all : ∀ {l : List (List Key × V)} {m : List (List Key × Addr × Value)}, KT H l m → ∀ x ∈ m, (tupleKind (mixKind P w)).is h x.1 x.2.1 := by
    intro l m q
    induction q with
    | nil => intro x hx; exact nomatch hx
    | @cons p q ps qs hq t ih =>
      intro x hx
      rcases List.mem_cons.mp hx with e | hx
      · subst e
        exact key_of ok (by rw [← hq.1]; exact hq.2.1)
      · exact ih x hx
  exact all r x hx
theorem dt_of {kvs : List (List Key × V)} (ok : HOk P w H h) (e : H a = some (.dT kvs)) : kvs.length ≤ sizeLine ∧ (a == sysModules) = false ∧
    ∃ xs, KT H kvs xs ∧ h.DictOfH (tupleKind (mixKind P w)) a xs := dt_rd ok (.inl e)
end
def DGet (H : Hp) (a : Addr) (y : V) (r : Option V) : Prop :=
  (∃ kvs k, Rd H a (.dK kvs) ∧ y = kV k ∧ r = valV kvs k) ∨ ∃ kvs k b, Rd H a (.dT kvs) ∧ y = .ref b ∧ H b = some (.tup (k.map kV)) ∧ r = valV kvs k
def DPut (H : Hp) (a : Addr) (y v : V) (H' : Hp) : Prop :=
  (∃ kvs k, H a = some (.dK kvs) ∧ y = kV k ∧ kvs.length < sizeLine ∧ H' = upd H a (.dK (putK kvs k v))) ∨
  ∃ kvs k b, H a = some (.dT kvs) ∧ y = .ref b ∧ H b = some (.tup (k.map kV)) ∧ kvs.length < sizeLine ∧ H' = upd H a (.dT (putK kvs k v))
theorem DGet.k {H : Hp} {a : Addr} {kvs : List (Key × V)} {k : Key} (e : H a = some (.dK kvs)) : DGet H a (kV k) (valV kvs k) := .inl ⟨kvs, k, .inl e, rfl, rfl⟩
theorem DPut.k {H : Hp} {a : Addr} {kvs : List (Key × V)} {k : Key} {v : V} (e : H a = some (.dK kvs)) (hl : kvs.length < sizeLine) : DPut H a (kV k) v (upd H a (.dK (putK kvs k v))) := .inl ⟨kvs, k, e, rfl, hl, rfl⟩
section
variable {X : Cx} {pins : List (Addr × Obj)} {σ : St} {H : Hp} {s : Shared} {a : Addr} {y v : V} {u r : Value} {o : Option V} {A : Around} {E : Value → Shared → Prop}
theorem Inv.big (I : Inv X pins σ H s) : sysModules < s.heap.objs.size := by
  have h : mainGlobals < s.heap.objs.size := (I.mod.glob.keeps I.bk).lt
  exact Nat.lt_trans (by decide) h
theorem d_getItem {Q : Value → Shared → Prop} (hu : A.units + 1 < cLine) (I : Inv X pins σ H s) (g : DGet H a y (some v)) (ry : RelV y u) (h : ∀ w' s', Inv X pins σ H s' → RelV v w' → Q w' s') :
    wpAny (model X.prog X.w) A (getItem (.ref a) u) Q E s := by
  rcases g with ⟨kvs, k, e, ey, l⟩ | ⟨kvs, k, b, e, ey, eb, l⟩
  · subst ey
    obtain ⟨z, hd, vs, rel, dd⟩ := dk_rd I.hok e
    obtain ⟨w', hw, rw'⟩ := RelO.some_of (v := v) (o := valueAt vs k) (by rw [l]; exact rel.val k)
    exact wpAny_getItem_of (kV_is ry) dd.mapOf hw (h w' _ (I.tok _) rw')
  · subst ey
    cases (show u = Value.ref b from ry)
    obtain ⟨z, hd, xs, rel, dd⟩ := dt_rd I.hok e
    obtain ⟨w', hw, rw'⟩ := RelO.some_of (v := v) (o := (atKey xs k).map (·.2)) (by rw [l]; exact rel.val k)
    obtain ⟨p, hp, hp2⟩ := Option.map_eq_some_iff.mp hw
    refine wpAny_getItem_heap (tupleKind_room_in1 hu) (key_of I.hok eb) dd hp ?_
    rw [hp2]
    exact h w' _ (I.tok _) rw'
theorem d_in {Q : Value → Shared → Prop} (hu : A.units + 1 < cLine) (I : Inv X pins σ H s) (g : DGet H a y o) (ry : RelV y u) (h : ∀ s', Inv X pins σ H s' → Q (.bool o.isSome) s') :
    wpAny (model X.prog X.w) A (compareOp .In u (.ref a)) Q E s := by
  rcases g with ⟨kvs, k, e, ey, l⟩ | ⟨kvs, k, b, e, ey, eb, l⟩
  · subst ey
    obtain ⟨z, hd, vs, rel, dd⟩ := dk_rd I.hok e
    refine wpAny_in_of (kV_is ry) hd dd.mapOf ?_
    rw [← (rel.val k).isSome_eq, ← l]
    exact h _ (I.tok _)
  · subst ey
    cases (show u = Value.ref b from ry)
    obtain ⟨z, hd, xs, rel, dd⟩ := dt_rd I.hok e
    refine wpAny_in_heap (tupleKind_room_in1 hu) (key_of I.hok eb) hd dd ?_
    have q := (rel.val k).isSome_eq
    rw [Option.isSome_map] at q
    rw [← q, ← l]
    exact h _ (I.tok _)
theorem d_write {h' : Heap} {t' : Nat} {ob : HO} (I : Inv X pins σ H s) (mu : Mut (H a)) (hs : Heap.SameBut a s.heap h') (he : ∃ q, h'.get? a = some q) (new : ObjOk X.prog X.w (upd H a ob) h' a ob) :
    Inv X pins σ (upd H a ob) { s with heap := h', toks := t' } :=
  I.write (x := a) (e := a) mu (.inl rfl) (fun b q hb z => (hs.2 b hb).trans z) he new
theorem dk_new {P : Program} {w : World} {H' : Hp} {h' : Heap} {kvs : List (Key × V)} {vs : List (Key × Value)} (z : kvs.length ≤ sizeLine) (hd : (a == sysModules) = false) (rel : KV kvs vs) (dd : h'.DictOf (mixKind P w) a vs) :
    ObjOk P w H' h' a (.dK kvs) := ⟨z, hd, vs, rel, dd⟩
theorem d_setItem {H' : Hp} {Q : Unit → Shared → Prop} (hu : A.units + 1 < cLine) (I : Inv X pins σ H s) (g : DPut H a y v H') (ry : RelV y u) (rv : RelV v r) (h : ∀ s', Inv X pins σ H' s' → Q () s') :
    wpAny (model X.prog X.w) A (setItem (.ref a) u r) Q E s := by
  rcases g with ⟨kvs, k, e, ey, l, eH⟩ | ⟨kvs, k, b, e, ey, eb, l, eH⟩
  · subst ey eH
    obtain ⟨z, hd, vs, rel, dd⟩ := dk_of I.hok e
    have hz : vs.length ≤ sizeLine := by rw [← rel.length]; exact z
    have hl : (putK kvs k v).length ≤ sizeLine := by have := length_putK kvs k v; omega
    refine wpAny_setItem_pairs (hsz := hz) (kV_is ry) dd fun h' dd' hs => h _ ?_
    have he : ∃ q, h'.get? a = some q := let ⟨q, _, _, hq, _⟩ := dd'; ⟨q, hq⟩
    exact d_write I (by rw [e]; exact True.intro) hs he (dk_new hl hd (rel.put k rv) dd')
  · subst ey eH
    cases (show u = Value.ref b from ry)
    obtain ⟨z, hd, xs, rel, dd⟩ := dt_of I.hok e
    have hz : xs.length ≤ sizeLine := by rw [← Paired.length rel]; exact z
    have hl : (putK kvs k v).length ≤ sizeLine := by have := length_putK kvs k v; omega
    refine wpAny_setItem_heap (hsz := hz) (tupleKind_room_in1 hu) (key_of I.hok eb) dd fun h' dd' hs => h _ ?_
    obtain ⟨q, es, ep, hq, h2, h3, h4, _, h5⟩ := dd'
    refine d_write I (by rw [e]; exact True.intro) hs ⟨q, hq⟩ ⟨hl, hd, _, (rel.put k eb rv).keeps fun c ys ec => ?_, q, es, ep, hq, h2, h3, h4, h5⟩
    rw [upd_ne (ne_of ec e (fun z => nomatch z))]
    exact ec
end
section
variable {X : Cx} {pins : List (Addr × Obj)} {σ : St} {H : Hp} {s : Shared} {a : Addr} {kvs : List (Key × V)} {k : Key} {u : Value} {A : Around} {E : Value → Shared → Prop}
theorem d_len {Q : Value → Shared → Prop} (I : Inv X pins σ H s) (e : Rd H a (.dK kvs)) (h : ∀ t s', Inv X pins σ H s' → Q (.int kvs.length t) s') : wpAny (model X.prog X.w) A (call (.builtin "len") [.ref a]) Q E s := by
  obtain ⟨z, hd, vs, rel, dd⟩ := dk_rd I.hok e
  refine call_len_dict hd dd (by rw [← rel.length]; rw [sizeLine_eq] at z; omega) ?_
  rw [← rel.length]
  exact h _ _ (I.tok _)
end
def NoSl (i : Expr) : Prop := ∀ ov iv, subscripted i false ov iv = operate [ov, iv] (getItem ov iv)
theorem subD_of {prog : Program} {w : World} {A : Around} {E : Value → Shared → Prop} {s : Shared} {env : Env} {value slice : Expr} {pos : Pos} {T id : String} {Q : Value → Shared → Prop}
    (hl : typeLookup (.type T) "__getitem__" = pure (some (.builtin id))) (hs : NoSl slice)
    (h : wpAny (model prog w) A (eval value env) (fun o s₁ => wpAny (model prog w) A (eval slice env) (fun i s₂ => s₂.TypeIs o T ∧ wpAny (model prog w) A (getItem o i) Q E s₂) E s₁) E s) :
    wpAny (model prog w) A (eval (.Subscript value slice pos) env) Q E s := by
  refine Subscript_ (wpAny_mono h (fun o s₁ h₁ => wpAny_mono h₁ (fun i s₂ h₂ => ?_) fun _ _ x => x) fun _ _ x => x)
  obtain ⟨hT, h₂⟩ := h₂
  unfold subscriptTail
  refine wpAny_bind ?_
  rw [getitemInPython_of_ne hT.not_modules]
  refine wpAny_bind (wpAny_specialOf hT hl ?_)
  have fin : wpAny (model prog w) A (subscripted slice false o i) (fun r s₃ => wpAny (model prog w) A (letTemporaryGo value o r >>= fun _ => pure r) Q E s₃) E s₂ := by
    rw [hs o i]
    exact wpAny_operating (wpAny_mono h₂ (fun r s₃ h₃ => wpAny_bind (wpAny_letTemporaryGo (wpAny_pure h₃))) fun _ _ x => x)
  first
    | exact wpAny_pure (wpAny_bind fin)
    | exact wpAny_bind (wpAny_pure (wpAny_bind fin))
    | exact wpAny_bind fin
theorem dict_typeIs {X : Cx} {pins : List (Addr × Obj)} {σ : St} {H : Hp} {s : Shared} {a : Addr} {y : V} {o : Option V} (I : Inv X pins σ H s) (g : DGet H a y o) : s.TypeIs (.ref a) "dict" := by
  rcases g with ⟨kvs, k, e, _, _⟩ | ⟨kvs, k, b, e, _, _, _⟩
  · obtain ⟨_, _, vs, _, dd⟩ := dk_rd I.hok e
    exact dd.typeIs
  · obtain ⟨_, _, xs, _, dd⟩ := dt_rd I.hok e
    exact dd.typeIs
def tDGet (td ty : TE) : TE := fun σ H Q => td σ H fun x H1 => ty σ H1 fun y H2 => ∃ a v, x = .ref a ∧ DGet H2 a y (some v) ∧ Q v H2
def tDIn (ty td : TE) : TE := fun σ H Q => ty σ H fun y H1 => td σ H1 fun x H2 => ∃ a o, x = .ref a ∧ DGet H2 a y o ∧ Q (.bl o.isSome) H2
def sDPut (td ty tv : TE) : TS := fun D σ H => tv σ H fun v H1 => td σ H1 fun x H2 => ty σ H2 fun y H3 => ∃ a H4, x = .ref a ∧ DPut H3 a y v H4 ∧ D.nx σ H4
section
variable {X : Cx} {o i e value : Expr} {pos pos' tpos : Pos} {td ty tv : TE}
theorem pe_dget (hu : X.A.units + 1 < cLine) (ho : PE X o td) (hi : PE X i ty) (hs : NoSl i) : PE X (.Subscript o i pos) (tDGet td ty) := by
  intro pins s σ H Q I h
  refine subD_of PySem.F.slot_dict_getitem.lookup hs (thn (ho pins s σ H _ I h) fun u s1 ⟨x, H1, I1, rx, q1⟩ => thn (hi pins s1 σ H1 _ I1 q1) fun iv s2 ⟨y, H2, I2, ry, a, v, ex, g, q2⟩ => ?_)
  subst ex
  obtain rfl : u = Value.ref a := rx
  exact ⟨dict_typeIs I2 g, d_getItem hu I2 g ry fun w' s3 I3 rw' => ⟨v, H2, I3, rw', q2⟩⟩
theorem pc_din (hu : X.A.units + 1 < cLine) (hi : PE X i ty) (ho : PE X o td) : PC X .In i o (tDIn ty td) := by
  intro pins s σ H Q I h
  refine thn (hi pins s σ H _ I h) fun iv s1 ⟨y, H1, I1, ry, q1⟩ => thn (ho pins s1 σ H1 _ I1 q1) fun u s2 ⟨x, H2, I2, rx, a, ov, ex, g, q2⟩ => ?_
  subst ex
  obtain rfl : u = Value.ref a := rx
  exact d_in hu I2 g ry fun s3 I3 => ⟨.bl ov.isSome, H2, I3, rfl, q2⟩
theorem ps_dput (hu : X.A.units + 1 < cLine) (ho : PE X o td) (hi : PE X i ty) (hv : PE X value tv) (hs : swapsWith value (some (.Subscript o i pos')) pos.line X.env = pure false) :
    PS X (.Assign [.Subscript o i pos'] value pos) (sDPut td ty tv) := by
  intro pins s σ H D I h
  refine wpAny_Assign_Subscript (thn (hv pins s σ H _ I h) fun r s1 ⟨v, H1, I1, rv, q1⟩ => thn (ho pins s1 σ H1 _ I1 q1) fun u s2 ⟨x, H2, I2, rx, q2⟩ => thn (hi pins s2 σ H2 _ I2 q2) fun iv s3 ⟨y, H3, I3, ry, a, H4, ex, g, q3⟩ => ?_) hs
  subst ex
  obtain rfl : u = Value.ref a := rx
  exact d_setItem hu I3 g ry rv fun s4 I4 => ⟨σ, H4, I4, q3⟩
end
theorem dk_empty {P : Program} {w : World} {H : Hp} (h : Heap) (hb : sysModules < h.objs.size) : ObjOk P w H (h.push { cls := .type "dict", data := .dict #[] }) h.objs.size (.dK []) :=
  ⟨Nat.zero_le _, beq_eq_false_iff_ne.mpr (Ne.symm (Nat.ne_of_lt hb)), [], .nil, Heap.DictOf.new h⟩
def tDNewK : TE := fun _ H Q => ∀ p, H p = none → Q (.ref p) (upd H p (.dK []))
section
variable {X : Cx} {pos : Pos}
theorem pe_dnewK : PE X (.Dict [] [] pos) tDNewK := fun pins s σ H Q I h =>
  wpAny_Dict_empty ⟨.ref s.heap.objs.size, _, I.laid (a := s.heap.objs.size) (o := .dK []) (t' := s.toks) (fun _ _ q => Heap.get?_push_of_some _ q) (Nat.le_refl _) (dk_empty s.heap I.big), rfl, h _ (I.hok.fresh (Nat.le_refl _))⟩
end
def mergeK (kvs more : List (Key × V)) : List (Key × V) := more.foldl (fun acc kv => putK acc kv.1 kv.2) kvs
theorem KV.merge : ∀ {more : List (Key × V)} {rs : List (Key × Value)} {kvs : List (Key × V)} {vs : List (Key × Value)}, KV more rs → KV kvs vs → KV (mergeK kvs more) (merged vs rs) := by
  intro more rs kvs vs r
  unfold KV at r
  induction r generalizing kvs vs with
  | nil => intro q; exact q
  | @cons p q ps qs h t ih =>
    intro r0
    have e : KV (putK kvs p.1 p.2) (stored vs q.1 q.2) := by
      have := r0.put p.1 h.2
      rw [← h.1]; exact this
    exact ih e
theorem length_mergeK : ∀ (more kvs : List (Key × V)), (mergeK kvs more).length ≤ kvs.length + more.length
  | [], kvs => by show kvs.length ≤ kvs.length + 0; omega
  | p :: r, kvs => by
    have h1 := length_mergeK r (putK kvs p.1 p.2)
    have h2 := length_putK kvs p.1 p.2
    show (mergeK (putK kvs p.1 p.2) r).length ≤ _
    rw [List.length_cons]; omega
section
variable {X : Cx} {pins : List (Addr × Obj)} {σ : St} {H : Hp} {s : Shared} {a : Addr} {y d : V} {u r : Value} {o : Option V} {A : Around} {E : Value → Shared → Prop}
end
section
variable {X : Cx} {o e f : Expr} {apos cpos : Pos} {td ty tx : TE}
end
section
variable {X : Cx} {pins : List (Addr × Obj)} {σ : St} {H : Hp} {s : Shared} {a : Addr} {kvs : List (Key × V)} {A : Around} {E : Value → Shared → Prop}
end
section
variable {X : Cx} {pins : List (Addr × Obj)} {σ : St} {H : Hp} {s : Shared} {a : Addr} {y : V} {u : Value} {A : Around} {E : Value → Shared → Prop}
end
end L2
namespace L2
open PySem PySem.Spec PyProof.Rows
theorem list_keys_none : typeLookup (.type "list") "keys" = pure none := am_miss_of_fast (by first | decide +kernel | rfl)
theorem ud_entry : entryFor table "dict.update.loop" = some Builtin.«dict.update.loop» := entryFor_of_tree (by kernel_rfl)
theorem ud_plain : plainId "dict.update.loop" = true := by decide +kernel
section
variable {prog : Program} {w : World} {A : Around} {E : Value → Shared → Prop}
theorem miss_list {s : Shared} {a : Addr} {o : Obj} {xs : Array Value} {k : Nat} {Q : Option Value → Shared → Prop} (hx : s.heap.get? a = some o) (hc : o.cls = .type "list") (hdat : o.data = .seq xs k) (hd : o.dict = none) (hA : A.handled = none)
    (h : ∀ h' tk, (∀ b ob, s.heap.get? b = some ob → h'.get? b = some ob) → Q none { s with heap := h', toks := tk }) : wpAny (model prog w) A (getAttr? (.ref a) "keys") Q E s := by
  obtain ⟨c, dct, dat, sl⟩ := o
  simp only at hc hdat hd
  subst hc hdat hd
  obtain ⟨hp, g, d, tk, os⟩ := s
  have hT : ∀ tk', (⟨hp, g, d, tk', os⟩ : Shared).TypeIs (.ref a) "list" := fun _ => ⟨_, hx, rfl⟩
  have hmiss := list_keys_none
  have hname : (["__module__", "__name__", "__qualname__", "__doc__", "__annotations__"] : List Str).contains "keys" = false := by decide +kernel
  have hsz : ("keys" : Str).length + 100 ≤ sizeLine := by first | size_fits | decide +kernel
  have f1 := sub_AttributeError
  have f3 := PySem.F.slot_list_getattribute.lookup
  have f4 := PySem.F.slot_list_getattribute.bind (.ref a)
  have f5 := am_list_getattr_none
  unfold getAttr? getAttrBy? getAttrBy
  repeat (any_goals (first | assumption | exact hT _ | ((with_reducible show wpAny _ _ (call (Value.builtin "list.__getattribute__") _ _) _ _ _); refine call_meets PySem.F.slot_list_getattribute (hT _) am_entry_list_getattribute (PySem.F.args_list_getattribute_2 _ _) (meets_getattribute_miss_list a xs k sl "keys" _ hmiss hname hsz) ⟨hx, hA, fun h' tk' e hx' => ?_⟩) | wp_step))
  obtain ⟨t', u', he⟩ := hx'.there
  show wpAny _ _ (getattributeRaised _ _ _ _ _ _ _) _ _ _
  unfold getattributeRaised
  repeat (any_goals (first | assumption | wp_step))
  all_goals first | exact h _ _ hx'.keeps | (dsimp only; repeat (any_goals (first | assumption | exact h _ _ hx'.keeps | wp_step)))
theorem upd_loop {R : Result → Shared → Prop} {S I l : Addr} {items : Array Value} {res : Value} (hh : A.handled = none) (hlI : l ≠ I) (hSI : S ≠ I) (hSl : S ≠ l) :
    ∀ (rest : List (Key × Value)) (i : Nat) (acc : List (Key × Value)) (ix : Int) (t : Tok) (s : Shared), items.size = i + rest.length → acc.length + rest.length ≤ sizeLine →
      (∀ (j : Nat) (q : Key × Value), rest[j]? = some q → ∃ (b : Addr) (u : Value), items[i + j]? = some (.ref b) ∧ b ≠ S ∧ b ≠ I ∧ IsTup s.heap b #[u, q.2] ∧ keyIs q.1 u = true) →
      s.heap.IsListIter I l i → s.heap.IsList l items → s.heap.DictOf (mixKind prog w) S acc →
      (∀ h' tk, h'.DictOf (mixKind prog w) S (merged acc rest) → (∀ b o, b ≠ S → b ≠ I → s.heap.get? b = some o → h'.get? b = some o) → R (.ok (.ret res)) { s with heap := h', toks := tk }) →
      codeAny (model prog w) A (.builtin "dict.update.loop" ⟨[.ref S, .ref I, .int ix t, res], []⟩) R s
  | [], i, acc, ix, t, s, hsz, hln, ht, hit, hl, hm, hR => by
    refine codeAny_builtin ud_entry ?_
    rw [Around.under_plainId ud_plain _]
    show wpAny _ A.in1 (pyNext (.ref I) >>= _) _ _ s
    refine wpAny_bind (wpAny_pyNext_list_end (A := A.in1) hh hit hl (by first | exact Array.getElem?_eq_none (Nat.le_of_eq hsz) | (simp at hsz; simp; omega)) fun h' he => ?_)
    show wpAny _ A.in1 (Builtin.Dict.addKeywords S [] >>= _) _ _ _
    refine wpAny_bind (wpAny_pure (wpAny_pure ?_))
    exact hR h' s.toks (hm.extBut he hSI) fun b o _ hb e => he b o hb e
  | q :: rest, i, acc, ix, t, s, hsz, hln, ht, hit, hl, hm, hR => by
    obtain ⟨b, u, hb, hbS, hbI, htup, hk⟩ := ht 0 q rfl
    rw [List.length_cons] at hsz hln
    refine codeAny_builtin ud_entry ?_
    rw [Around.under_plainId ud_plain _]
    show wpAny _ A.in1 (pyNext (.ref I) >>= _) _ _ s
    refine wpAny_bind (wpAny_pyNext_list_item (x := .ref b) hit hl (by simpa using hb) fun h1 hit1 hs1 => ?_)
    have ht1 : IsTup h1 b #[u, q.2] := htup.extBut hs1.extBut hbI
    have hl1 : h1.IsList l items := hl.extBut hs1.extBut hlI
    have hm1 : h1.DictOf (mixKind prog w) S acc := hm.extBut hs1.extBut hSI
    obtain ⟨o, ho, hc, n, hd⟩ := id ht1
    show wpAny _ A.in1 (holding [Value.ref b] _ >>= _) _ _ _
    refine wpAny_bind (wpAny_holding ?_)
    refine wpAny_bind (wpAny_tryCatch ?_)
    unfold Builtin.Dict.pairItems
    refine wpAny_bind (wpAny_typeOf (T := "tuple") ⟨o, ho, hc⟩ ?_)
    rw [if_pos (by first | decide | rfl | simp)]
    refine wpAny_bind (wpAny_seqItems ho hd (wpAny_pure ?_))
    show wpAny _ A.in1 (holding [u, q.2] (dictSet S u q.2)) _ _ _
    refine wpAny_holding (wpAny_dictSet_pairs (knd := mixKind prog w) (k := q.1) hk hm1 (fun h2 hm2 hs2 => ?_) (by omega))
    refine wpAny_pure ⟨plainId_quiet ud_plain _, upd_loop (items := items) hh hlI hSI hSl rest (i + 1) (stored acc q.1 q.2) (ix + 1) 0 _ (show items.size = i + 1 + rest.length by omega) ?_ (fun j q' e => ?_) ?_ ?_ hm2 fun h' tk hd' k => ?_⟩
    · have z := stored_length_le acc q.1 q.2
      omega
    · obtain ⟨b', u', hb', hbS', hbI', htup', hk'⟩ := ht (j + 1) q' (by simpa using e)
      refine ⟨b', u', ?_, hbS', hbI', (htup'.extBut hs1.extBut hbI').extBut hs2.extBut hbS', hk'⟩
      rw [show i + 1 + j = i + (j + 1) by omega]
      exact hb'
    · exact hit1.at fun o' e => hs2.extBut I o' (Ne.symm hSI) e
    · exact hl1.extBut hs2.extBut (Ne.symm hSl)
    · exact hR h' tk hd' fun c oc h3 h4 e => k c oc h3 h4 (hs2.extBut c oc h3 (hs1.extBut c oc h4 e))
theorem call_dict_pairs {s : Shared} {l : Addr} {ol : Obj} {items : Array Value} {n : Nat} {prs : List (Key × Value)} {Q : Value → Shared → Prop} (hh : A.handled = none) (hl : s.heap.get? l = some ol) (hc : ol.cls = .type "list") (hd : ol.dict = none)
    (hdat : ol.data = .seq items n) (hsz : items.size = prs.length) (hln : prs.length ≤ sizeLine)
    (ht : ∀ (j : Nat) (q : Key × Value), prs[j]? = some q → ∃ (b : Addr) (u : Value), items[j]? = some (.ref b) ∧ IsTup s.heap b #[u, q.2] ∧ keyIs q.1 u = true)
    (h : ∀ h' tk, h'.DictOf (mixKind prog w) s.heap.objs.size (merged [] prs) → (∀ b o, s.heap.get? b = some o → h'.get? b = some o) → Q (.ref s.heap.objs.size) { s with heap := h', toks := tk }) :
    wpAny (model prog w) A (call (.type "dict") [.ref l]) Q E s := by
  refine callType_codes (Q₁ := fun obj s₁ => obj = .ref s.heap.objs.size ∧ s₁ = { s with heap := s.heap.push { cls := .type "dict", data := .dict #[] } }) PySem.F.kt_called_dict (PySem.F.kt_typeCall_dict_1 _) PySem.F.entry_dict_init (kt_code_dict_new _ ⟨rfl, rfl⟩) ?_
  rintro obj s₁ ⟨rfl, rfl⟩
  have hnew : (s.heap.push { cls := .type "dict", data := .dict #[] }).DictOf (mixKind prog w) s.heap.objs.size [] := Heap.DictOf.new s.heap
  have k0 : ∀ b o, s.heap.get? b = some o → (s.heap.push { cls := .type "dict", data := .dict #[] }).get? b = some o := fun b o e => Heap.get?_push_of_some _ e
  refine ⟨hnew.typeIs, PySem.F.args_dict_init_2 _ _, ?_⟩
  unfold Builtin.«dict.__init__»
  refine wpAny_bind ?_
  unfold Builtin.Dict.selfAndRest
  refine wpAny_bind (wpAny_notOrdered_dict hnew.typeIs ?_)
  show wpAny _ _ (pure (s.heap.objs.size, [Value.ref l])) _ _ _
  refine wpAny_pure ?_
  show wpAny _ _ (Builtin.Dict.updateFrom "dict.__init__" s.heap.objs.size (.ref l) [] .none) _ _ _
  unfold Builtin.Dict.updateFrom
  refine wpAny_bind (wpAny_typeOf (T := "list") ⟨ol, k0 _ _ hl, hc⟩ ?_)
  rw [if_pos (by first | decide | rfl | simp)]
  refine wpAny_bind (miss_list (k0 _ _ hl) hc hdat hd hh fun h1 tk1 hk1 => ?_)
  rw [if_pos (show (none : Option Value).isNone = true from rfl)]
  refine wpAny_bind (wpAny_rule ?_)
  have hl1 : h1.IsList l items := ⟨ol, hk1 _ _ (k0 _ _ hl), hc, n, hdat⟩
  have hS1 : s.heap.objs.size < h1.objs.size := by
    have e : (s.heap.push { cls := .type "dict", data := .dict #[] }).get? s.heap.objs.size = some { cls := .type "dict", data := .dict #[] } := Heap.get?_push_size _ rfl
    exact Heap.lt_size (hk1 _ _ e)
  refine wpAny_bind (wpAny_pyIter_list hl1 ?_)
  have k2 : ∀ b o, h1.get? b = some o → (h1.push { cls := .type "list_iterator", data := .fields #[.ref l, .int 0 0] }).get? b = some o := fun b o e => Heap.get?_push_of_some _ e
  have hlt : l < s.heap.objs.size := Heap.lt_size hl
  have key := upd_loop (prog := prog) (w := w) (A := A.in1) (R := wants (fun r s₂ => r = .none ∧ Q (.ref s.heap.objs.size) s₂) E) (S := s.heap.objs.size) (I := h1.objs.size) (l := l) (items := items) (res := Value.none) hh
    (Nat.ne_of_lt (Nat.lt_trans hlt hS1)) (Nat.ne_of_lt hS1) (Nat.ne_of_gt hlt) prs 0 [] 0 0
    { s with heap := h1.push { cls := .type "list_iterator", data := .fields #[.ref l, .int 0 0] }, toks := tk1 } (by rw [hsz, Nat.zero_add]) (by rw [List.length_nil, Nat.zero_add]; exact hln)
    (fun j q e => by
      obtain ⟨b, u, e1, e2, e3⟩ := ht j q e
      have hb : b < s.heap.objs.size := e2.lt
      exact ⟨b, u, by rw [Nat.zero_add]; exact e1, Nat.ne_of_lt hb, Nat.ne_of_lt (Nat.lt_trans hb hS1), e2.keeps fun c o z => k2 _ _ (hk1 _ _ (k0 _ _ z)), e3⟩)
    ⟨_, Heap.get?_push_size _ rfl, rfl, rfl⟩ (hl1.at fun o e => k2 _ _ e) ((hnew.at fun o e => hk1 _ _ e).at fun o e => k2 _ _ e)
    (fun h' tk hd' k => ⟨rfl, h h' tk hd' fun b o e => k b o (Nat.ne_of_lt (Heap.lt_size e)) (Nat.ne_of_lt (Nat.lt_trans (Heap.lt_size e) hS1)) (k2 _ _ (hk1 _ _ (k0 _ _ e)))⟩)
  first
    | exact wpAny_pure ⟨plainId_quiet ud_plain _, key⟩
    | exact wpAny_bind (wpAny_pure (wpAny_pure ⟨plainId_quiet ud_plain _, key⟩))
end
section
variable {X : Cx}
theorem pairs_of {pins : List (Addr × Obj)} {σ : St} {H : Hp} {s : Shared} (I : Inv X pins σ H s) : ∀ {ps : List Addr} {kvs : List (Key × V)}, Paired (fun p kv => SqT X.K H p [kV kv.1, kv.2]) ps kvs →
    ∃ prs : List (Key × Value), KV kvs prs ∧ prs.length = ps.length ∧ ∀ (j : Nat) (q : Key × Value), prs[j]? = some q → ∃ (b : Addr) (u : Value), ps[j]? = some b ∧ IsTup s.heap b #[u, q.2] ∧ keyIs q.1 u = true
  | _, _, .nil => ⟨[], .nil, rfl, fun j q e => by simp at e⟩
  | _, _, .cons (a := p) (b := kv) h t => by
    obtain ⟨prs, r, hl, hp⟩ := pairs_of I t
    obtain ⟨its, rv, ht, _⟩ := I.tuple h
    obtain ⟨u, y, ei, ru, ry⟩ := vals2 rv
    subst ei
    refine ⟨(kv.1, y) :: prs, .cons ⟨rfl, ry⟩ r, by rw [List.length_cons, List.length_cons, hl], fun j q e => ?_⟩
    cases j with
    | zero =>
      have e' : (kv.1, y) = q := Option.some.inj e
      subst e'
      exact ⟨p, u, rfl, ht, kV_is (P := X.prog) (w := X.w) ru⟩
    | succ j =>
      obtain ⟨b, u', e1, e2, e3⟩ := hp j q (by simpa using e)
      exact ⟨b, u', by simpa using e1, e2, e3⟩
theorem refs_at : ∀ {ps : List Addr} {us : List Value}, Vals (ps.map V.ref) us → us = ps.map Value.ref
  | [], us, r => by
    rw [List.map_nil] at r
    cases r
    rfl
  | p :: ps, us, r => by
    rw [List.map_cons] at r
    cases r with
    | cons h t =>
      cases h
      rw [List.map_cons, ← refs_at t]
theorem call_dictP (hcalm : X.calm = true) : CallR X (.type "dict") (fun xs H Q => ∃ (a : Addr) (ps : List Addr) (kvs : List (Key × V)), xs = [.ref a] ∧ SqL X.K H a (ps.map V.ref) ∧ Paired (fun p kv => SqT X.K H p [kV kv.1, kv.2]) ps kvs ∧
    ∀ p, H p = none → Q (.ref p) (upd H p (.dK (mergeK [] kvs)))) := by
  intro pins s σ H xs us Q I r q
  obtain ⟨a, ps, kvs, ex, hq, hp, q⟩ := q
  subst ex
  obtain ⟨u, eu, rx⟩ := vals1 r
  subst eu
  cases rx
  obtain ⟨its, rv, pl, hz⟩ := I.list hq
  have ei := refs_at rv
  subst ei
  rw [List.length_map] at hz
  obtain ⟨prs, rel, hl, hpr⟩ := pairs_of I hp
  obtain ⟨o, n, ho, hc, hd, hdat⟩ := pl
  refine call_dict_pairs (prs := prs) (I.ok.hd hcalm) ho hc hd hdat (by simp [hl]) (by rw [hl]; exact hz) (fun j q' e => ?_) fun h' tk hd' k => ?_
  · obtain ⟨b, u, e1, e2, e3⟩ := hpr j q' e
    exact ⟨b, u, by simp [e1], e2, e3⟩
  · have hm : (s.heap.objs.size == sysModules) = false := beq_eq_false_iff_ne.mpr (Nat.ne_of_gt I.big)
    have hlen : (mergeK [] kvs).length ≤ sizeLine := by
      refine Nat.le_trans (length_mergeK kvs []) ?_
      rw [List.length_nil, Nat.zero_add, rel.length, hl]
      exact hz
    exact ⟨.ref s.heap.objs.size, upd H s.heap.objs.size (.dK (mergeK [] kvs)), I.laid (t' := tk) k (Nat.le_refl _) (show ObjOk X.prog X.w _ _ _ (.dK (mergeK [] kvs)) from ⟨hlen, hm, merged [] prs, KV.merge rel .nil, hd'⟩), rfl, q _ (I.hok.fresh (Nat.le_refl _))⟩
end
end L2
namespace L2
open PySem PySem.Spec PyProof.Rows
section
variable {X : Cx} {pins : List (Addr × Obj)} {σ : St} {H : Hp} {s : Shared} {h' : Heap}
theorem Inv.turnedNew {t' : Nat} {ch : List Addr} {T : Addr} {ob : HO} (I : Inv X pins σ H s) (k : ∀ b o, b ∉ ch → s.heap.get? b = some o → h'.get? b = some o) (hf : ∀ b ∈ ch, FpOk X pins H b) (hT : s.heap.objs.size ≤ T)
    (new : ObjOk X.prog X.w (upd H T ob) h' T ob) : Inv X pins σ (upd H T ob) { s with heap := h', toks := t' } := by
  have hn : H T = none := I.hok.fresh hT
  have nit : ∀ b u, H b = some u → b ∉ ch := fun b u e z => by
    have q := (hf b z).1
    rw [q] at e; cases e
  refine I.step (g' := s.gens) (d' := s.drawn) (ch := ch) (fun b hb => ⟨(hf b hb).2.2.2.1, (hf b hb).2.1, (hf b hb).2.2.2.2.1, (hf b hb).2.2.2.2.2⟩) (fun b o _ _ hc e _ => k b o hc e) (fun b o _ _ hc e _ => ⟨o.slots, k b o hc e⟩)
    (fun b o _ e n => ?_) (fun b o hc e => ⟨o, k b o hc e⟩) (fun b xs e => ?_) (fun b o u e => ?_) (fun b ps e => ⟨#[], ?_⟩) (fun m hm => ?_) (fun b u e => ?_) I.bare
  · rw [upd_ne (Nat.ne_of_lt (Nat.lt_of_lt_of_le (Heap.lt_size e) hT))]; exact n
  · rw [upd_ne (ne_of_none e hn)]; exact e
  · rw [upd_ne (ne_of_none e hn)]; exact e
  · rw [upd_ne (ne_of_none e hn), e]; simp
  · obtain ⟨o, es, ep, ho, r⟩ := hm
    exact ⟨o, es, ep, k _ o (fun z => (hf _ z).2.1 rfl) ho, r⟩
  · by_cases hb : b = T
    · subst hb
      rw [upd_same] at e
      cases e
      exact new
    · rw [upd_ne hb] at e
      refine (I.hok b u e).stay (fun c v hc q => k c v ?_ q) (fun c q => by rw [upd_ne (ne_of_none q hn)]; exact q) fun c xs q => by rw [upd_ne (ne_of_none q hn)]; exact q
      rcases hc with z | z
      · rw [z]; exact nit b u e
      · exact nit c _ z
theorem Inv.lock {d : Addr} {u : HO} (I : Inv X pins σ H s) (h : H d = some u) (mu : Mut (some u)) : ∃ od, Inv X pins σ (upd H d (.frz od u)) s := by
  have x := I.hok d u h
  have ex : ∃ od, s.heap.get? d = some od := by
    cases u with
    | lst xs => obtain ⟨_, _, _, _, e⟩ := x; exact ⟨_, e⟩
    | dK kvs => obtain ⟨_, _, _, _, o, _, _, e, _⟩ := x; exact ⟨o, e⟩
    | dT kvs => obtain ⟨_, _, _, _, o, _, _, e, _⟩ := x; exact ⟨o, e⟩
    | set S n => obtain ⟨o, _, _, _, e, _⟩ := x; exact ⟨o, e⟩
    | ins C dx fs => obtain ⟨_, _, _, e, _⟩ := x; exact ⟨_, e⟩
    | ext φ => obtain ⟨_, ⟨_, e⟩, _⟩ := x; exact ⟨_, e⟩
    | _ => exact False.elim mu
  obtain ⟨od, e⟩ := ex
  have new : ObjOk X.prog X.w (upd H d (.frz od u)) s.heap d (.frz od u) := by
    refine ⟨e, x.stay (fun b v _ q => q) (fun b q => ?_) fun b xs q => ?_⟩
    · rw [upd_ne (fun z => by rw [z, h] at q; cases q; exact mu)]; exact q
    · rw [upd_ne (fun z => by rw [z, h] at q; cases q; exact mu)]; exact q
  exact ⟨od, I.write (x := d) (e := d) (t' := s.toks) (h' := s.heap) (by rw [h]; exact mu) (.inl rfl) (fun b v _ q => q) ⟨od, e⟩ new⟩
theorem Inv.nofrz {d : Addr} {u : HO} (I : Inv X pins σ H s) (h : H d = some u) (mu : Mut (some u)) : ∀ o' u', X.H_0 d ≠ some (.frz o' u') := fun o' u' e => by
  have q := I.base.frzs d o' u' e
  rw [h] at q
  cases q
  exact mu
theorem Inv.unlock {d : Addr} {od : Obj} {u : HO} (I : Inv X pins σ H s) (h : H d = some (.frz od u)) (hn : ∀ o' u', X.H_0 d ≠ some (.frz o' u')) : Inv X pins σ (upd H d u) s := by
  have neH : ∀ b o, H b = some o → (∀ o' u', o ≠ .frz o' u') → b ≠ d := fun b o e hne z => by
    rw [z, h] at e
    cases e
    exact hne _ _ rfl
  have neN : ∀ b, H b = none → b ≠ d := fun b e z => by rw [z, h] at e; cases e
  refine ⟨I.ok, I.os, I.bare, ⟨I.base.keep, I.base.slot, fun b o e n hx => ?_, I.base.there, fun b xs e => ?_, fun b o x e => ?_, fun b ps e => ?_⟩, I.loc, I.cell, ?_, fun x c e => ?_, fun p hp => ?_, fun b o e => ?_, I.len⟩
  · rw [upd_ne (neN b (I.base.free b o e n hx))]; exact I.base.free b o e n hx
  · have q := I.base.tups b xs e
    rw [upd_ne (neH b _ q (fun _ _ z => nomatch z))]; exact q
  · have q := I.base.frzs b o x e
    rw [upd_ne (fun z => by rw [z] at e; exact hn _ _ e)]; exact q
  · obtain ⟨m, q⟩ := I.base.tbls b ps e
    exact ⟨m, by rw [upd_ne (neH b _ q (fun _ _ z => nomatch z))]; exact q⟩
  · rw [upd_ne (neN _ I.free)]; exact I.free
  · rw [upd_ne (neN c (I.freeC x c e))]; exact I.freeC x c e
  · obtain ⟨e, n, r⟩ := I.pin p hp
    exact ⟨e, by rw [upd_ne (neN _ n)]; exact n, r⟩
  · by_cases hb : b = d
    · rw [hb, upd_same] at e
      cases e
      rw [hb]
      obtain ⟨_, x⟩ := I.hok d _ h
      exact x.stay (fun c v _ q => q) (fun c q => by rw [upd_ne (neH c _ q (fun _ _ z => nomatch z))]; exact q) fun c xs q => by rw [upd_ne (neH c _ q (fun _ _ z => nomatch z))]; exact q
    · rw [upd_ne hb] at e
      exact (I.hok b o e).stay (fun c v _ q => q) (fun c q => by rw [upd_ne (neH c _ q (fun _ _ z => nomatch z))]; exact q) fun c xs q => by rw [upd_ne (neH c _ q (fun _ _ z => nomatch z))]; exact q
end
def tLockE (t : TE) : TE := fun σ H Q => ∃ d u, H d = some u ∧ Mut (some u) ∧ ∀ od, t σ (upd H d (.frz od u)) fun v H' => H' d = some (.frz od u) ∧ Q v (upd H' d u)
section
variable {X : Cx}
theorem pe_lock {e : Expr} {t : TE} (h : PE X e t) : PE X e (tLockE t) := by
  intro pins s σ H Q I hw
  obtain ⟨d, u, hd, mu, hw⟩ := hw
  obtain ⟨od, I1⟩ := I.lock hd mu
  refine thn (h pins s σ _ _ I1 (hw od)) fun v s1 ⟨x, H1, I2, r, e2, q⟩ => ?_
  exact ⟨x, _, I2.unlock e2 (I.nofrz hd mu), r, q⟩
theorem pi_one {tg : Expr} {pins : List (Addr × Obj)} {σ : St} {H : Hp} {s : Shared} {R : It → Hp → Prop} {J : It} {tn : Nat → Heap → Prop} {tk : Nat} (I : Inv X pins σ H s) (o : Obj)
    (T : Turn X.prog X.w X.K tg J [s.heap.objs.size] s.heap.objs.size tn) (st : tn 0 (s.heap.push o)) (q : R J H) : PIE X pins σ tg R (.ref s.heap.objs.size) { s with heap := s.heap.push o, toks := tk } := by
  refine ⟨s.heap.objs.size, [s.heap.objs.size], tn, J, H, rfl, I.kept fun b ob e => Heap.get?_push_of_some _ e, T, st, fun b hb => ?_, q⟩
  have e : b = s.heap.objs.size := by simpa using hb
  subst e
  exact I.fpOk (Nat.le_refl _) (I.hok.fresh (Nat.le_refl _))
end
section
variable {X : Cx} {tg : Expr}
end
section
variable {X : Cx} {tg : Expr}
end
section
variable {prog : Program} {w : World} {A : Around} {E : Value → Shared → Prop} {s : Shared}
end
theorem kv_get {κ : Type} {kvs : List (κ × V)} {vs : List (κ × Value)} (h : KV kvs vs) : ∀ {i : Nat} {k : κ} {v : V}, kvs[i]? = some (k, v) → ∃ u, vs[i]? = some (k, u) ∧ RelV v u := by
  unfold KV at h
  induction h with
  | nil => intro i k v e; simp at e
  | @cons a b l₁ l₂ r t ih =>
    intro i k v e
    cases i with
    | zero =>
      simp only [List.getElem?_cons_zero, Option.some.injEq] at e
      subst e
      refine ⟨b.2, ?_, r.2⟩
      simp only [List.getElem?_cons_zero]
      exact congrArg some (Prod.ext r.1.symm rfl)
    | succ j =>
      simp only [List.getElem?_cons_succ] at e ⊢
      exact ih e
theorem paired_get {α β : Type} {G : α → β → Prop} {l₁ : List α} {l₂ : List β} (h : Paired G l₁ l₂) : ∀ {i : Nat} {a : α}, l₁[i]? = some a → ∃ b, l₂[i]? = some b ∧ G a b := by
  induction h with
  | nil => intro i a e; simp at e
  | @cons a b l₁ l₂ r t ih =>
    intro i a' e
    cases i with
    | zero =>
      simp only [List.getElem?_cons_zero, Option.some.injEq] at e
      subst e
      exact ⟨b, rfl, r⟩
    | succ j =>
      simp only [List.getElem?_cons_succ] at e ⊢
      exact ih e
theorem relV_key {k : Key} {u : Value} (h : keyIs k u = true) : RelV (kV k) u := by
  rcases keyIs_shape h with ⟨i, t, rfl, rfl⟩ | ⟨x, t, rfl, rfl⟩
  · exact ⟨t, rfl⟩
  · exact ⟨t, rfl⟩
section
variable {X : Cx} {pins : List (Addr × Obj)} {σ : St} {H : Hp} {s : Shared} {d : Addr} {o : Obj}
theorem Inv.frzK {kvs : List (Key × V)} (I : Inv X pins σ H s) (h : H d = some (.frz o (.dK kvs))) :
    (d == sysModules) = false ∧ s.heap.get? d = some o ∧ o.ExactDict ∧ ∃ (es : Array DictEntry) (ep : Nat) (vs : List (Key × Value)), o.data = .dict es ep ∧ es.size = kvs.length ∧ KV kvs vs ∧ s.heap.DictAt (mixKind X.prog X.w) d vs ep := by
  obtain ⟨hd, z, hs, vs, kv, o', es, ep, ho, hx, hdt, r⟩ := I.hok d _ h
  rw [hd] at ho
  cases ho
  refine ⟨hs, hd, hx, es, ep, vs, hdt, ?_, kv, o, es, hd, hx, hdt, r⟩
  have l1 := r.2.1.length
  have l2 : kvs.length = vs.length := Paired.length kv
  rw [Array.length_toList] at l1
  omega
end
def Iti (d : Addr) (o : Obj) (kvs : List (Key × V)) : It :=
  ⟨fun i H => H d = some (.frz o (.dK kvs)) ∧ i < kvs.length, fun i H x H' => ∃ T k v, kvs[i]? = some (k, v) ∧ x = .ref T ∧ H T = none ∧ H' = upd H T (.tup [kV k, v]), fun i H => H d = some (.frz o (.dK kvs)) ∧ kvs.length ≤ i⟩
theorem dict_ep {o : Obj} {es es' : Array DictEntry} {ep ep' : Nat} (h : o.data = .dict es ep) (h' : o.data = .dict es' ep') : es' = es ∧ ep' = ep := by
  rw [h] at h'
  cases h'
  exact ⟨rfl, rfl⟩
section
variable {P : Program} {w : World} {K : PySem.W.Frag} {tg : Expr} {d : Addr} {o : Obj} {es : Array DictEntry} {ep : Nat}
theorem turn_items {kvs : List (Key × V)} {elts : List Expr} {kk : Nat} {tpos : Pos} (it : Addr) (hod : o.data = .dict es ep) :
    Turn P w K (.Tuple elts kk tpos) (Iti d o kvs) [it] it (fun i h => ∃ ok ov, IsItemIter h it d i kvs.length ep ok ov) where
  mem := by simp
  obj := fun i h st b hb => by
    have e : b = it := by simpa using hb
    subst e
    obtain ⟨ok, ov, e⟩ := st
    exact ⟨_, e, fun v z => nomatch z⟩
  keep := fun i h h' st k => let ⟨ok, ov, e⟩ := st; ⟨ok, ov, k it (by simp) _ e⟩
  item := by
    intro X hP hw hK hc i pins s σ H E I hf st hg
    subst hP hw hK
    obtain ⟨hd, hi⟩ := hg
    obtain ⟨hs, hgd, hx, es', ep', vs, hdt, hsz, kv, hm⟩ := I.frzK hd
    obtain ⟨rfl, rfl⟩ := dict_ep hod hdt
    obtain ⟨⟨k, v⟩, hkv⟩ : ∃ p, kvs[i]? = some p := ⟨kvs[i], List.getElem?_eq_getElem hi⟩
    obtain ⟨u, hu, ru⟩ := kv_get kv hkv
    have hl : kvs.length = vs.length := Paired.length kv
    obtain ⟨ok, ov, he⟩ := st
    rw [hl] at he
    have hlt : it < s.heap.objs.size := Heap.lt_size he
    refine wpAny_pyNext_items_item he hm hu fun key h' hkey ho hT hz hk => ?_
    refine ⟨_, rfl, wpAny_letOwnedTupleGo_items (s := { s with heap := h' }) ho fun h'' he' sb => ?_⟩
    have hT2 : h''.get? s.heap.objs.size = some { cls := .type "tuple", data := .seq #[key, u] } := (sb.2 _ (Nat.ne_of_gt hlt)).trans hT
    have new : ObjOk X.prog X.w (upd H s.heap.objs.size (.tup [kV k, v])) h'' s.heap.objs.size (.tup [kV k, v]) :=
      ⟨by show 2 ≤ sizeLine; decide, [key, u], .cons (relV_key (show keyIs k key = true from hkey)) (.cons ru .nil), ⟨_, hT2, rfl, _, rfl⟩⟩
    have I1 : Inv X pins σ (upd H s.heap.objs.size (.tup [kV k, v])) { s with heap := h'' } :=
      I.turnedNew (t' := s.toks) (ch := [it]) (fun b ob hb e => (sb.2 b (by simpa using hb)).trans (hk b ob (by simpa using hb) e)) hf (Nat.le_refl _) new
    refine ⟨.ref s.heap.objs.size, _, I1, rfl, ⟨_, k, v, hkv, rfl, I.hok.fresh (Nat.le_refl _), rfl⟩, ⟨key, u, ?_⟩, fun b hb => ?_⟩
    · rw [hl]; exact he'
    · have e : b = it := by simpa using hb
      rw [e, upd_ne (Nat.ne_of_lt hlt)]
      exact (hf it (by simp)).1
  done := by
    intro X hP hw hK hc i pins s σ H E I hf st hg
    subst hP hw hK
    obtain ⟨hd, hi⟩ := hg
    obtain ⟨f0, f1, f2, f3, f4, f5⟩ := hf it (by simp)
    obtain ⟨hs, hgd, hx, es', ep', vs, hdt, hsz, kv, hm⟩ := I.frzK hd
    obtain ⟨rfl, rfl⟩ := dict_ep hod hdt
    have hl : kvs.length = vs.length := Paired.length kv
    obtain ⟨ok, ov, he⟩ := st
    rw [hl] at he
    exact wpAny_pyNext_items_end (I.ok.hd hc) he hm (List.getElem?_eq_none (by omega)) fun h' eb => ⟨rfl, I.turned (t' := s.toks) (fun b ob hb e => eb b ob hb e) f0 f1 f3 f4 f5⟩
  self := fun A i s Q E st h => let ⟨_, _, e⟩ := st; PySem.W.kcp_self e h
end
def iItems (td : TE) : TI := fun σ H R => td σ H fun x H1 => ∃ d o kvs, x = .ref d ∧ H1 d = some (.frz o (.dK kvs)) ∧ R (Iti d o kvs) H1
section
variable {X : Cx} {tg e : Expr} {td : TE} {apos cpos : Pos}
theorem pi_items {elts : List Expr} {kk : Nat} {tpos : Pos} (he : PE X e td) (hbase : attributeBase e "items" X.env (eval e X.env) = eval e X.env := by rfl) (hline : (apos.endLine == cpos.line) = true := by rfl) :
    PI X (.Tuple elts kk tpos) (.Call (.Attribute e "items" apos) [] [] cpos) (iItems td) := by
  intro pins s σ H R I h
  refine wpAny_Call_method (T := "dict") (id := "dict.items") hbase rfl hline F.plainAttrs_dict F.slot_dict_items F.type_dict_items (thn (he pins s σ H _ I h) fun u s1 ⟨x, H1, I1, rx, d, o, kvs, ex, hd, q⟩ => ?_)
  subst ex
  obtain rfl : u = Value.ref d := rx
  obtain ⟨hs, hgd, hx, es, ep, vs, hdt, hsz, kv, hm⟩ := I1.frzK hd
  have hl : kvs.length = vs.length := Paired.length kv
  refine ⟨hm.dictOf.typeIs, hm.dictOf.mapOf.noDict, ?_⟩
  have I2 : Inv X pins σ H1 { s1 with heap := s1.heap.push { cls := .type "dict_items", data := .fields #[.ref d] } } := I1.kept (t' := s1.toks) fun b ob q => Heap.get?_push_of_some _ q
  have fin : wpAny (model X.prog X.w) X.A (pyIter (.ref s1.heap.objs.size)) (PIE X pins σ (.Tuple elts kk tpos) R) X.xe { s1 with heap := s1.heap.push { cls := .type "dict_items", data := .fields #[.ref d] } } := by
    refine wpAny_pyIter_items (d := d) (knd := mixKind X.prog X.w) ⟨_, Heap.get?_push_size _ rfl, rfl, rfl⟩ (hm.push _) (pi_one (tk := s1.toks) I2 _ (turn_items _ hdt) ⟨.none, .none, ?_⟩ q)
    rw [hl]
    exact Heap.get?_push_size _ rfl
  show wpAny _ _ (callWith cpos (.builtin "dict.items") [.ref d] [] []) _ X.xe s1
  exact method_meetsIn F.slot_dict_items F.entry_dict_items rfl (PySem.evalArgs_none ⟨rfl, hm.dictOf.typeIs, F.args_dict_items_1 _, _, meets_dict_items (mixKind X.prog X.w) d hs, ⟨vs, hm.dictOf⟩, fin⟩)
end
def Ite (K : PySem.W.Frag) (a : Addr) : It :=
  ⟨fun i H => ∃ (xs : List V) (x : V), SqL K H a xs ∧ xs[i]? = some x, fun i H v H' => ∃ T x, v = .ref T ∧ H T = none ∧ H' = upd H T (.tup [.int (i : Nat), x]) ∧ ∀ xs, SqL K H a xs → xs[i]? = some x, fun i H => ∃ xs : List V, SqL K H a xs ∧ xs.length ≤ i⟩
theorem turn_enum {P : Program} {w : World} {K : PySem.W.Frag} {elts : List Expr} {kk : Nat} {tpos : Pos} (a e it : Addr) :
    Turn P w K (.Tuple elts kk tpos) (Ite K a) [e, it] e (fun i h => (∃ old, IsEnum h e it ((i : Nat) : Int) old) ∧ h.IsListIter it a i ∧ e ≠ it) where
  mem := by simp
  obj := fun i h st b hb => by
    obtain ⟨⟨old, he⟩, ⟨o, ho, hc, hd⟩, _⟩ := st
    have e' : b = e ∨ b = it := by simpa using hb
    rcases e' with z | z
    · rw [z]; exact ⟨_, he, fun v q => nomatch q⟩
    · rw [z]; exact ⟨o, ho, fun v q => by rw [hd] at q; cases q⟩
  keep := fun i h h' st k => let ⟨⟨old, he⟩, hi, hne⟩ := st; ⟨⟨old, k e (by simp) _ he⟩, hi.at fun o q => k it (by simp) o q, hne⟩
  item := by
    intro X hP hw hK hc i pins s σ H E I hf st hg
    subst hP hw hK
    obtain ⟨⟨old, he⟩, hit, hne⟩ := st
    obtain ⟨xs, x, hq, hx⟩ := hg
    obtain ⟨its, rv, p, hz⟩ := I.list hq
    obtain ⟨u, hu, ru⟩ := rv.get hx
    have hel : e < s.heap.objs.size := Heap.lt_size he
    have hil : it < s.heap.objs.size := by obtain ⟨_, q, _⟩ := hit; exact Heap.lt_size q
    refine wpAny_pyNext_enum_item he hit p.isList (x := u) (by simpa using hu) hne fun h' ho hit' hT hsz hk => ?_
    refine ⟨_, rfl, wpAny_letOwnedTupleGo_enum (s := { s with heap := h', toks := s.toks + 1 }) ho fun h'' he' sb => ?_⟩
    have hT2 : h''.get? s.heap.objs.size = some { cls := .type "tuple", data := .seq #[.int i s.toks, u] } := (sb.2 _ (Nat.ne_of_gt hel)).trans hT
    have new : ObjOk X.prog X.w (upd H s.heap.objs.size (.tup [.int (i : Nat), x])) h'' s.heap.objs.size (.tup [.int (i : Nat), x]) :=
      ⟨by show 2 ≤ sizeLine; decide, [.int i s.toks, u], .cons ⟨_, rfl⟩ (.cons ru .nil), ⟨_, hT2, rfl, _, rfl⟩⟩
    have I1 : Inv X pins σ (upd H s.heap.objs.size (.tup [.int (i : Nat), x])) { s with heap := h'', toks := s.toks + 1 } :=
      I.turnedNew (ch := [e, it]) (fun b ob hb q => (sb.2 b (fun z => hb (by simp [z]))).trans (hk b ob (fun z => hb (by simp [z])) (fun z => hb (by simp [z])) q)) hf (Nat.le_refl _) new
    refine ⟨.ref s.heap.objs.size, _, I1, rfl, ⟨_, x, rfl, I.hok.fresh (Nat.le_refl _), rfl, fun ys hy => by rw [I.list_inj hy hq]; exact hx⟩, ⟨⟨u, ?_⟩, hit'.at fun o q => (sb.2 it (Ne.symm hne)).trans q, hne⟩, fun b hb => ?_⟩
    · have e1 : ((i + 1 : Nat) : Int) = (i : Int) + 1 := by omega
      rw [e1]; exact he'
    · have hb' : b < s.heap.objs.size := by
        have e' : b = e ∨ b = it := by simpa using hb
        rcases e' with z | z
        · rw [z]; exact hel
        · rw [z]; exact hil
      rw [upd_ne (Nat.ne_of_lt hb')]
      exact (hf b hb).1
  done := by
    intro X hP hw hK hc i pins s σ H E I hf st hg
    subst hP hw hK
    obtain ⟨⟨old, he⟩, hit, hne⟩ := st
    obtain ⟨xs, hq, hx⟩ := hg
    obtain ⟨its, rv, p, hz⟩ := I.list hq
    obtain ⟨f0, f1, f2, f3, f4, f5⟩ := hf it (by simp)
    have hl := rv.length
    exact wpAny_pyNext_enum_end (I.ok.hd hc) he hit p.isList (by simp; omega) fun h' eb => ⟨rfl, I.turned (t' := s.toks) (fun b o hb q => eb b o hb q) f0 f1 f3 f4 f5⟩
  self := fun A i s Q E st h => let ⟨⟨_, he⟩, _⟩ := st; wpAny_pyIter_enum he h
def iEnum (K : PySem.W.Frag) (ta : TA) : TI := fun σ H R => ta σ H fun vs H1 => ∃ a xs, vs = [.ref a] ∧ SqL K H1 a xs ∧ R (Ite K a) H1
theorem pi_enum {X : Cx} {e : Expr} {ta : TA} {p pos tpos : Pos} {elts : List Expr} {kk : Nat} (hg : Gl X "enumerate") (hm : X.mg "enumerate" = none) (ha : PA X [e] ta) (hs : starEach [e] X.env = [(false, eval e X.env)] := by rfl) :
    PI X (.Tuple elts kk tpos) (.Call (.Name "enumerate" p) [e] [] pos) (iEnum X.K ta) := by
  intro pins s σ H R I h
  refine Call_ (ld_blt I hg hm boot_enumerate (PyProof.Rows.callWith_type1 (thn (ha pos pins s σ H _ I h) fun us s1 ⟨vs, H1, I1, r1, q1⟩ => ?_) hs rfl))
  obtain ⟨a, xs, ex, hq, q⟩ := q1
  subst ex
  cases r1 with
  | cons r rr =>
    cases rr
    cases r
    obtain ⟨its, rv, p', hz⟩ := I1.list hq
    refine call_enumerate_list p'.isList fun h' he hit hsz hk => wpAny_pyIter_enum he ?_
    have I2 : Inv X pins σ H1 { s1 with heap := h' } := I1.kept (t' := s1.toks) hk
    refine ⟨s1.heap.objs.size + 1, [s1.heap.objs.size + 1, s1.heap.objs.size], _, _, H1, rfl, I2, turn_enum a (s1.heap.objs.size + 1) s1.heap.objs.size, ⟨⟨.none, he⟩, hit, Nat.succ_ne_self _⟩, fun b hb => ?_, q⟩
    have e' : b = s1.heap.objs.size + 1 ∨ b = s1.heap.objs.size := by simpa using hb
    have hle : s1.heap.objs.size ≤ b := by
      rcases e' with z | z
      · rw [z]; exact Nat.le_add_right _ _
      · rw [z]; exact Nat.le_refl _
    exact I1.fpOk hle (I1.hok.fresh hle)
end L2
section 
namespace Bits
open PySem PyProof.Rows
end Bits
end 
section 
namespace TL
open PySem PySem.Builtin PySem.Builtin.Str PySem.StrLaws
end TL
end 
namespace L2
open PySem PySem.Spec PyProof.Rows
section
variable {X : Cx} {pins : List (Addr × Obj)} {σ : St} {H : Hp} {s : Shared} {Q : VK}
end
section
variable {X : Cx}
end
section
variable {X : Cx} {o e : Expr} {to te : TE}
end
end L2
namespace L2
open PySem PySem.Spec PyProof.Rows
section
variable {X : Cx}
end
end L2
namespace Att
open PySem PySem.W PySem.Calls PyProof.Rows
section
variable {prog : Program} {w : World} {A : Around} {E : Value → Shared → Prop} {s : Shared} {K : Frag}
end
end Att
namespace L2
open PySem PySem.Spec PyProof.Rows
end L2
namespace L2
open PySem PySem.Spec PyProof.Rows
end L2
namespace L2
open PySem PySem.Spec PyProof.Rows
def inClass (s : Stmt) (j : Nat) : Stmt := match s with
  | .ClassDef _ _ _ body _ _ _ _ _ _ _ => body.getD j (.Pass ⟨0, 0, 0, 0⟩)
  | _ => .Pass ⟨0, 0, 0, 0⟩
def defArgs (s : Stmt) : Arguments := match s with
  | .FunctionDef _ a _ _ _ _ _ _ _ _ => a
  | _ => { posonlyargs := [], args := [], vararg := none, kwonlyargs := [], kw_defaults := [], kwarg := none, defaults := [] }
def defBody (s : Stmt) : List Stmt := match s with
  | .FunctionDef _ _ b _ _ _ _ _ _ _ => b
  | _ => []
def defScope (s : Stmt) : Scope := match s with
  | .FunctionDef _ _ _ _ _ _ sc _ _ _ => sc
  | _ => { kind := .function, names := [], isGenerator := false, isCoroutine := false }
abbrev CX0 : CXT := fun _ _ _ _ _ _ => False
abbrev E0 : XK := fun _ _ _ => False
theorem pass0 {X : Cx} : Passes CX0 X E0 := fun _ _ _ _ _ _ _ h => h.elim
structure Fun (K : PySem.W.Frag) (x qual : Str) (st : Stmt) (f : Addr) (fd : FuncData) : Prop where
  ex : ∃ (oc : Value) (od : Option Addr) (kV doc pm : Value) (an : Option Addr) (cdv ct : Value) (osl : Array (Option Value)),
    fd = PySem.W.fnOf x qual (defArgs st) (defBody st) (defScope st) .none kV doc pm an cdv ct ∧ K.lookup f = some ⟨oc, od, .func fd, osl⟩ ∧ PySem.W.codeIn K cdv qual = true
  kp : PySem.W.keepIn K (.ref f) = true
section
variable {P : Program} {w : World} {K : PySem.W.Frag} {mg : Str → Option Value} {base : Heap}
theorem Fun.ok {x qual : Str} {st : Stmt} {f : Addr} {fd : FuncData} {N ps : List Str} {k : Nat} {sp : Sp} (F : Fun K x qual st f fd) (S : FnScope N ps (defScope st)) (len : ∀ vs H Q E, sp vs H Q E → vs.length = ps.length)
    (hbody : ∀ (cdv : Value) (A : Around) (outer : List Env) (s : Shared) (H : Hp) (vs : List V) (Q : VK) (E : XK), Room k (A.deeper (envOfC qual (defScope st) s.heap.objs.size f cdv)) → sp vs H Q E →
      ∃ t, PSs (cxOf CX0 P w K mg base N qual (defScope st) f cdv A outer s H E).nox (defBody st) t ∧ t { nx := fun _ H' => Q .non H', rt := Q } (start N vs) H) : FnOk P w K mg base CX0 (k + 1) f fd ps sp := by
  obtain ⟨oc, od, kV, doc, pm, an, cdv, ct, osl, rfl, lk, hcd⟩ := F.ex
  refine fn_of lk hcd S len fun A outer s H vs Q E hr hsp => ?_
  obtain ⟨t, h, q⟩ := hbody cdv A outer s H vs Q E hr hsp
  exact ⟨t, h.nox, q⟩
theorem Fun.binds {x qual : Str} {st : Stmt} {f : Addr} {fd : FuncData} {ps : List Str} (F : Fun K x qual st f fd)
    (h : ∀ (kV doc pm : Value) (an : Option Addr) (cdv ct : Value) (us : List Value), us.length = ps.length → bindArgs (PySem.W.fnOf x qual (defArgs st) (defBody st) (defScope st) .none kV doc pm an cdv ct) ⟨us, []⟩ = pure (ps.zip us)) : Binds K fd ps [] := by
  obtain ⟨oc, od, kV, doc, pm, an, cdv, ct, osl, rfl, lk, hcd⟩ := F.ex
  exact .all (h kV doc pm an cdv ct)
theorem fun_mk {x qual : Str} {st : Stmt} {f : Addr} {oc : Value} {od an : Option Addr} {osl : Array (Option Value)} {kV doc pm cdv ct : Value} (l : K.lookup f = some ⟨oc, od, .func (PySem.W.fnOf x qual (defArgs st) (defBody st) (defScope st) .none kV doc pm an cdv ct), osl⟩)
    (c : PySem.W.codeIn K cdv qual = true) (k : PySem.W.keepIn K (.ref f) = true) : Fun K x qual st f (PySem.W.fnOf x qual (defArgs st) (defBody st) (defScope st) .none kV doc pm an cdv ct) := ⟨⟨oc, od, kV, doc, pm, an, cdv, ct, osl, rfl, l, c⟩, k⟩
end
theorem hu_of {A : Around} {k : Nat} (hr : Room k A) : A.units + 1 < cLine := Nat.lt_of_le_of_lt (Nat.add_le_add_left (by decide : 1 ≤ 64) _) hr.units
section
variable {X : Cx}
theorem pv (i : Nat) {x : Str} {pos : Pos} (hN : X.N[i]? = some x := by rfl) (hv : Vis X.env.scope x := by first | exact Or.inl rfl | exact Or.inr (Or.inl rfl) | exact Or.inr (Or.inr rfl)) (hd : (x == ("__debug__" : Str)) = false := by decide)
    (hcd : (x == ("__classdict__" : Str)) = false := by decide) : PE X (.Name x pos) (tVar i) := pe_var hN hv hd hcd
theorem call_lenD : CallR X (.builtin "len") (fun xs H Q => ∃ a kvs, xs = [V.ref a] ∧ H a = some (.dK kvs) ∧ Q (.int kvs.length) H) := by
  intro pins s σ H xs us Q I r h
  obtain ⟨a, kvs, rfl, ha, q⟩ := h
  obtain ⟨u, rfl, ru⟩ := vals1 r
  cases ru
  exact d_len I (.inl ha) fun t s' I' => ⟨.int kvs.length, H, I', ⟨t, rfl⟩, q⟩
end
theorem iteF {A B : Prop} (h : B) : if false = true then A else B := by
  rw [if_neg Bool.false_ne_true]
  exact h
theorem iteT {A B : Prop} (h : A) : if true = true then A else B := by
  rw [if_pos rfl]
  exact h
theorem ite2 {c A B : Prop} [Decidable c] (h1 : c → A) (h2 : ¬ c → B) : if c then A else B := by
  by_cases h : c
  · rw [if_pos h]
    exact h1 h
  · rw [if_neg h]
    exact h2 h
def Same (H H' : Hp) : Prop := ∀ b o, H b = some o → H' b = some o
theorem Same.refl (H : Hp) : Same H H := fun _ _ h => h
theorem Same.trans {H H1 H2 : Hp} (a : Same H H1) (b : Same H1 H2) : Same H H2 := fun c o h => b c o (a c o h)
theorem Same.free {H H' : Hp} (e : Same H H') {l : Addr} (h : H' l = Option.none) : H l = Option.none := by
  cases q : H l with
  | none => rfl
  | some o =>
    rw [e l o q] at h
    cases h
theorem Same.seq {K : PySem.W.Frag} {H H' : Hp} {a : Addr} {xs : List V} (e : Same H H') (h : SqL K H a xs) : SqL K H' a xs := by
  rcases h with (h | ⟨o, h⟩) | h
  · exact .inl (.inl (e _ _ h))
  · exact .inl (.inr ⟨o, e _ _ h⟩)
  · exact .inr h
section
variable {κ : Type} [DecidableEq κ]
end
theorem at_of {xs : List V} {z : Int} {j : Nat} {v : V} (e : z = (j : Int)) (h : xs[j]? = some v) : atI xs z = some v := by
  rw [e]
  exact atI_nat h
theorem Same.made {H H1 : Hp} {x dx C : Addr} (nx : H x = Option.none) (nd : H dx = Option.none) (k : ∀ b o, (upd (upd H dx (.own x)) x (.ins C dx [])) b = some o → b ≠ x → H1 b = some o) : Same H H1 := fun b o e =>
  k b o (by rw [upd_ne (ne_of_none e nx), upd_ne (ne_of_none e nd)]; exact e) (ne_of_none e nx)
end L2
section
set_option Elab.async false
set_option linter.all false
set_option maxRecDepth 100000
set_option maxHeartbeats 2000000
namespace L2
open PySem PySem.Spec PyProof.Rows
open PySem.W (WData Codec OpenSpec Well WellAll ReadsW ReadsAllW)
mutual
/-- x stands for the datum d, lists and tuples all the way -/
inductive Dw (K : PySem.W.Frag) (H : Hp) : V → WData → Prop
  | non : Dw K H .non .none
  | bl (b : Bool) : Dw K H (.bl b) (.bool b)
  | int (i : Int) : Dw K H (.int i) (.int i)
  | str (x : Str) : Dw K H (.str x) (.str x)
  | byt (b : Array UInt8) : Dw K H (.byt b) (.bytes b.toList)
  | lst {a : Addr} {xs : List V} {ds : List WData} : SqL K H a xs → DwAll K H xs ds → Dw K H (.ref a) (.list ds)
  | tup {a : Addr} {xs : List V} {ds : List WData} : SqT K H a xs → DwAll K H xs ds → Dw K H (.ref a) (.tuple ds)
inductive DwAll (K : PySem.W.Frag) (H : Hp) : List V → List WData → Prop
  | nil : DwAll K H [] []
  | cons {v : V} {vs : List V} {d : WData} {ds : List WData} : Dw K H v d → DwAll K H vs ds → DwAll K H (v :: vs) (d :: ds)
end
theorem dw_ints {K : PySem.W.Frag} {H : Hp} : ∀ ns : List Int, DwAll K H (ns.map V.int) (ns.map WData.int)
  | [] => .nil
  | n :: r => .cons (.int n) (dw_ints r)
theorem ints_dw {K : PySem.W.Frag} {H : Hp} : ∀ (ns : List Int) (xs : List V), DwAll K H xs (ns.map WData.int) → xs = ns.map V.int
  | [], xs, h => by
    cases h
    rfl
  | n :: r, xs, h => by
    cases h with
    | cons h1 h2 =>
      cases h1
      rw [ints_dw r _ h2] <;> rfl
section
variable {P : Program} {w : World} {K : PySem.W.Frag} {H : Hp} {h : Heap} {R : PySem.W.WRecords} {cl : Str → Option Addr}
theorem sqL_at {a : Addr} {xs : List V} (hok : HOk P w H h) (KX : K.In h) (q : SqL K H a xs) : ∃ (its : List Value) (o : Obj) (n : Nat), Vals xs its ∧ h.get? a = some o ∧ o.cls = .type "list" ∧ o.data = .seq its.toArray n := by
  rcases q with q | ⟨o, its, n, e, hc, _, hd, _, hv⟩
  · obtain ⟨_, its, n, hv, e⟩ := (show ObjOk P w H h a (.lst xs) from q.ok hok)
    exact ⟨its, _, n, hv, e, rfl, rfl⟩
  · exact ⟨its.toList, o, n, hv, KX _ _ e, hc, by simp [hd]⟩
theorem sqT_at {a : Addr} {xs : List V} (hok : HOk P w H h) (KX : K.In h) (q : SqT K H a xs) : ∃ (its : List Value) (o : Obj) (n : Nat), Vals xs its ∧ h.get? a = some o ∧ o.cls = .type "tuple" ∧ o.data = .seq its.toArray n := by
  rcases q with q | ⟨o, its, n, e, hc, hd, _, hv⟩
  · obtain ⟨_, its, hv, o, e, hc, n, hd⟩ := (show ObjOk P w H h a (.tup xs) from q.ok hok)
    exact ⟨its, o, n, hv, e, hc, hd⟩
  · exact ⟨its.toList, o, n, hv, KX _ _ e, hc, by simp [hd]⟩
mutual
theorem Dw.reads (hok : HOk P w H h) (KX : K.In h) : ∀ (d : WData) (v : V) (u : Value), Dw K H v d → RelV v u → ∃ as, ReadsW R cl h u d as
  | .none, _, _, x, r => by
    cases x
    cases r
    exact ⟨_, ReadsW.none⟩
  | .bool b, _, _, x, r => by
    cases x
    cases r
    exact ⟨_, ReadsW.bool b⟩
  | .int i, _, _, x, r => by
    cases x
    obtain ⟨t, rfl⟩ := r
    exact ⟨_, ReadsW.int i t⟩
  | .str s, _, _, x, r => by
    cases x
    obtain ⟨t, rfl⟩ := r
    exact ⟨_, ReadsW.str s t⟩
  | .bytes b, _, _, x, r => by
    cases x
    obtain ⟨t, rfl⟩ := r
    exact ⟨_, ReadsW.bytes _ t⟩
  | .list ds, _, _, x, r => by
    cases x with
    | lst hs ha =>
      cases r
      obtain ⟨its, o, n, rv, ho, hc, hd⟩ := sqL_at hok KX hs
      obtain ⟨as, hr⟩ := Dw.readsAll hok KX ds _ its ha rv
      exact ⟨_, ReadsW.list ho hc hd hr⟩
  | .tuple ds, _, _, x, r => by
    cases x with
    | tup hs ha =>
      cases r
      obtain ⟨its, o, n, rv, ho, hc, hd⟩ := sqT_at hok KX hs
      obtain ⟨as, hr⟩ := Dw.readsAll hok KX ds _ its ha rv
      exact ⟨_, ReadsW.tuple ho hc hd hr⟩
  | .float _, _, _, x, _ => by cases x
  | .dict _, _, _, x, _ => by cases x
  | .bytearray _, _, _, x, _ => by cases x
  | .set _, _, _, x, _ => by cases x
  | .frozenset _, _, _, x, _ => by cases x
  | .obj _ _, _, _, x, _ => by cases x
theorem Dw.readsAll (hok : HOk P w H h) (KX : K.In h) : ∀ (ds : List WData) (vs : List V) (us : List Value), DwAll K H vs ds → Vals vs us → ∃ as, ReadsAllW R cl h us ds as
  | [], _, _, x, r => by
    cases x
    cases r
    exact ⟨_, ReadsAllW.nil⟩
  | d :: ds, _, _, x, r => by
    cases x with
    | cons h1 h2 =>
      cases r with
      | cons r1 r2 =>
        obtain ⟨as, q1⟩ := Dw.reads hok KX d _ _ h1 r1
        obtain ⟨bs, q2⟩ := Dw.readsAll hok KX ds _ _ h2 r2
        exact ⟨_, ReadsAllW.cons q1 q2⟩
end
end
mutual
/-- data that a codec tells -/
def plW : WData → Bool
  | .none => true
  | .bool _ => true
  | .int _ => true
  | .str _ => true
  | .bytes _ => true
  | .list xs => plWs xs
  | .tuple xs => plWs xs
  | _ => false
def plWs : List WData → Bool
  | [] => true
  | x :: r => plW x && plWs r
end
theorem plWs_map {α : Type} {f : α → WData} (h : ∀ a, plW (f a) = true) : ∀ l : List α, plWs (l.map f) = true
  | [] => rfl
  | x :: r => by
    show (plW (f x) && plWs (r.map f)) = true
    rw [h x, plWs_map h r] <;> rfl
theorem pl_enc : ∀ (c : Codec) (a : c.denote), plW (c.enc a) = true
  | .unit, _ => rfl
  | .bool, _ => rfl
  | .int _ _, _ => rfl
  | .nat _ _, _ => rfl
  | .u8, _ => rfl
  | .bytes _ _, _ => rfl
  | .text _ _ _ _, _ => rfl
  | .list _ _ c, a => plWs_map (fun x => pl_enc c x) a
  | .pair c d, a => by
    show (plW (c.enc a.1) && (plW (d.enc a.2) && true)) = true
    rw [pl_enc c a.1, pl_enc d a.2] <;> rfl
  | .triple c d e, a => by
    show (plW (c.enc a.1) && (plW (d.enc a.2.1) && (plW (e.enc a.2.2) && true))) = true
    rw [pl_enc c a.1, pl_enc d a.2.1, pl_enc e a.2.2] <;> rfl
  | .option c, none => rfl
  | .option c, some x => pl_enc c x
theorem pl_encAll : ∀ (cs : List Codec) (a : Codec.denoteAll cs), plWs (Codec.encAll cs a) = true
  | [], _ => rfl
  | c :: cs, a => by
    show (plW (c.enc a.1) && plWs (Codec.encAll cs a.2)) = true
    rw [pl_enc c a.1, pl_encAll cs a.2] <;> rfl
theorem weight_mem : ∀ {xs : List WData} {d : WData}, d ∈ xs → d.weight ≤ WData.weightAll xs
  | [], d, h => absurd h (by simp)
  | x :: r, d, h => by
    show d.weight ≤ x.weight + 1 + WData.weightAll r
    rcases List.mem_cons.mp h with e | m
    · rw [e]
      omega
    · have z := weight_mem m
      omega
def toV : Value → V
  | .none => .non
  | .bool b => .bl b
  | .int i _ => .int i
  | .str x _ => .str x
  | .bytes b _ => .byt b
  | .ref a => .ref a
  | _ => .non
def OkU (A : List Addr) : Value → Prop
  | .none => True
  | .bool _ => True
  | .int _ _ => True
  | .str _ _ => True
  | .bytes _ _ => True
  | .ref a => a ∈ A
  | _ => False
theorem OkU.mono {A B : List Addr} (h : ∀ a ∈ A, a ∈ B) : ∀ {u : Value}, OkU A u → OkU B u := fun {u} x => by
  cases u with
  | ref a => exact h a x
  | none => trivial
  | bool b => trivial
  | int i t => trivial
  | str s t => trivial
  | bytes b t => trivial
  | _ => exact False.elim x
theorem relV_toV {A : List Addr} {u : Value} (x : OkU A u) : RelV (toV u) u := by
  cases u with
  | ref a => rfl
  | none => rfl
  | bool b => rfl
  | int i t => exact ⟨t, rfl⟩
  | str s t => exact ⟨t, rfl⟩
  | bytes b t => exact ⟨t, rfl⟩
  | _ => exact False.elim x
theorem vals_toV {A : List Addr} : ∀ {vs : List Value}, (∀ u ∈ vs, OkU A u) → Vals (vs.map toV) vs
  | [], _ => .nil
  | u :: r, h => .cons (relV_toV (h u (List.mem_cons_self ..))) (vals_toV fun x hx => h x (List.mem_cons_of_mem _ hx))
def ArgOb (h : Heap) (A : List Addr) (a : Addr) : Prop := ∃ vs : List Value, vs.length ≤ sizeLine ∧ (∀ u ∈ vs, OkU A u) ∧
  (h.get? a = some { cls := .type "list", data := .seq vs.toArray } ∨ h.get? a = some { cls := .type "tuple", data := .seq vs.toArray })
theorem ArgOb.mono {h : Heap} {A B : List Addr} {a : Addr} (k : ∀ a ∈ A, a ∈ B) (x : ArgOb h A a) : ArgOb h B a := by
  obtain ⟨vs, h1, h2, h3⟩ := x
  exact ⟨vs, h1, fun u hu => (h2 u hu).mono k, h3⟩
theorem wellAll_len {P : Params} {h : Heap} : ∀ {vs : List Value} {ds : List WData}, WellAll P h vs ds → vs.length = ds.length
  | _, _, .nil => rfl
  | _, _, .cons _ b => by
    show _ + 1 = _ + 1
    rw [wellAll_len b]
theorem well_list {P : Params} {h : Heap} {v : Value} {ds : List WData} (x : Well P h v (.list ds)) : ∃ (a : Addr) (vs : List Value), v = .ref a ∧ h.get? a = some { cls := .type "list", data := .seq vs.toArray } ∧ WellAll P h vs ds := by
  cases x with
  | list ho hall => exact ⟨_, _, rfl, ho, hall⟩
theorem well_tuple {P : Params} {h : Heap} {v : Value} {ds : List WData} (x : Well P h v (.tuple ds)) : ∃ (a : Addr) (vs : List Value), v = .ref a ∧ h.get? a = some { cls := .type "tuple", data := .seq vs.toArray } ∧ WellAll P h vs ds := by
  cases x with
  | tuple ho hall => exact ⟨_, _, rfl, ho, hall⟩
theorem well_cons {P : Params} {h : Heap} {us : List Value} {d : WData} {ds : List WData} (x : WellAll P h us (d :: ds)) : ∃ (v : Value) (vs : List Value), us = v :: vs ∧ Well P h v d ∧ WellAll P h vs ds := by
  cases x with
  | cons a b => exact ⟨_, _, rfl, a, b⟩
theorem line_of {n : Nat} (h : n ≤ 1048576) : n ≤ sizeLine := Nat.le_trans h (by decide)
section
variable {P : Params} {h : Heap}
mutual
theorem area_one : ∀ (d : WData) (v : Value), Well P h v d → plW d = true → d.weight ≤ 1048576 → ∃ A : List Addr, OkU A v ∧ ∀ a ∈ A, ArgOb h A a
  | .none, _, x, _, _ => by
    cases x
    exact ⟨[], trivial, fun a m => absurd m (by simp)⟩
  | .bool b, _, x, _, _ => by
    cases x
    exact ⟨[], trivial, fun a m => absurd m (by simp)⟩
  | .int i, _, x, _, _ => by
    cases x
    exact ⟨[], trivial, fun a m => absurd m (by simp)⟩
  | .str s, _, x, _, _ => by
    cases x
    exact ⟨[], trivial, fun a m => absurd m (by simp)⟩
  | .bytes b, _, x, _, _ => by
    cases x
    exact ⟨[], trivial, fun a m => absurd m (by simp)⟩
  | .list ds, _, x, p, z => by
    obtain ⟨a, vs, rfl, ho, hall⟩ := well_list x
    have z2 : WData.weightAll ds ≤ 1048576 := z
    obtain ⟨A, h1, h2⟩ := area_all ds _ hall p fun d hd => Nat.le_trans (weight_mem hd) z2
    have k : ∀ b ∈ A, b ∈ a :: A := fun b hb => List.mem_cons_of_mem _ hb
    refine ⟨a :: A, List.mem_cons_self .., fun b hb => ?_⟩
    rcases List.mem_cons.mp hb with e | m
    · rw [e]
      exact ⟨vs, line_of (by rw [wellAll_len hall]; exact Nat.le_trans (PySem.W.length_le_weightAllW ds) z2), fun u hu => (h1 u hu).mono k, .inl ho⟩
    · exact (h2 b m).mono k
  | .tuple ds, _, x, p, z => by
    obtain ⟨a, vs, rfl, ho, hall⟩ := well_tuple x
    have z2 : WData.weightAll ds ≤ 1048576 := z
    obtain ⟨A, h1, h2⟩ := area_all ds _ hall p fun d hd => Nat.le_trans (weight_mem hd) z2
    have k : ∀ b ∈ A, b ∈ a :: A := fun b hb => List.mem_cons_of_mem _ hb
    refine ⟨a :: A, List.mem_cons_self .., fun b hb => ?_⟩
    rcases List.mem_cons.mp hb with e | m
    · rw [e]
      exact ⟨vs, line_of (by rw [wellAll_len hall]; exact Nat.le_trans (PySem.W.length_le_weightAllW ds) z2), fun u hu => (h1 u hu).mono k, .inr ho⟩
    · exact (h2 b m).mono k
  | .float _, _, _, p, _ => Bool.noConfusion (show false = true from p)
  | .dict _, _, _, p, _ => Bool.noConfusion (show false = true from p)
  | .bytearray _, _, _, p, _ => Bool.noConfusion (show false = true from p)
  | .set _, _, _, p, _ => Bool.noConfusion (show false = true from p)
  | .frozenset _, _, _, p, _ => Bool.noConfusion (show false = true from p)
  | .obj _ _, _, _, p, _ => Bool.noConfusion (show false = true from p)
theorem area_all : ∀ (ds : List WData) (vs : List Value), WellAll P h vs ds → plWs ds = true → (∀ d ∈ ds, d.weight ≤ 1048576) → ∃ A : List Addr, (∀ u ∈ vs, OkU A u) ∧ ∀ a ∈ A, ArgOb h A a
  | [], _, x, _, _ => by
    cases x
    exact ⟨[], fun u m => absurd m (by simp), fun a m => absurd m (by simp)⟩
  | d :: ds, _, x, p, z => by
    obtain ⟨v, vs, rfl, x1, x2⟩ := well_cons x
    have q : plW d = true ∧ plWs ds = true := Bool.and_eq_true_iff.mp p
    obtain ⟨A, a1, a2⟩ := area_one d v x1 q.1 (z d (List.mem_cons_self ..))
    obtain ⟨B, b1, b2⟩ := area_all ds vs x2 q.2 fun e he => z e (List.mem_cons_of_mem _ he)
    have kA : ∀ b ∈ A, b ∈ A ++ B := fun b hb => List.mem_append.mpr (.inl hb)
    have kB : ∀ b ∈ B, b ∈ A ++ B := fun b hb => List.mem_append.mpr (.inr hb)
    refine ⟨A ++ B, fun u hu => ?_, fun b hb => ?_⟩
    · rcases List.mem_cons.mp hu with e | m
      · rw [e]
        exact a1.mono kA
      · exact (b1 u m).mono kB
    · rcases List.mem_append.mp hb with m | m
      · exact (a2 b m).mono kA
      · exact (b2 b m).mono kB
end
end
def hoOf (o : Obj) : Option HO := match o.data with
  | .seq vs _ => if (o.cls == Value.type "list") = true then some (.frz o (.lst (vs.toList.map toV))) else some (.frz o (.tup (vs.toList.map toV)))
  | _ => none
def argH (K : PySem.W.Frag) (h : Heap) (A : List Addr) : Hp := fun b => if b ∈ A then (if (K.lookup b).isNone = true then (h.get? b).bind hoOf else none) else none
def OnlyF (H : Hp) : Prop := ∀ b, H b = none ∨ ∃ o u, H b = some (.frz o u)
theorem hoOf_lst (vs : List Value) : hoOf { cls := .type "list", data := .seq vs.toArray } = some (.frz { cls := .type "list", data := .seq vs.toArray } (.lst (vs.map toV))) := by
  show (if (Value.type "list" == Value.type "list") = true then some (HO.frz { cls := .type "list", data := .seq vs.toArray } (.lst (vs.toArray.toList.map toV))) else some (HO.frz { cls := .type "list", data := .seq vs.toArray } (.tup (vs.toArray.toList.map toV)))) = _
  rw [if_pos (beq_self_eq_true _)]
theorem hoOf_tup (vs : List Value) : hoOf { cls := .type "tuple", data := .seq vs.toArray } = some (.frz { cls := .type "tuple", data := .seq vs.toArray } (.tup (vs.map toV))) := by
  show (if (Value.type "tuple" == Value.type "list") = true then some (HO.frz { cls := .type "tuple", data := .seq vs.toArray } (.lst (vs.toArray.toList.map toV))) else some (HO.frz { cls := .type "tuple", data := .seq vs.toArray } (.tup (vs.toArray.toList.map toV)))) = _
  rw [if_neg (by decide)]
section
variable {P : Program} {w : World} {K : PySem.W.Frag} {h : Heap} {A : List Addr}
theorem argH_at {b : Addr} {o : Obj} (hb : b ∈ A) (hk : K.lookup b = none) (e : h.get? b = some o) : argH K h A b = hoOf o := by
  unfold argH
  rw [if_pos hb, hk, if_pos (show (none : Option Obj).isNone = true from rfl), e] <;> rfl
theorem of_argH {b : Addr} {u : HO} (q : argH K h A b = some u) : b ∈ A ∧ K.lookup b = none := by
  unfold argH at q
  by_cases hb : b ∈ A
  · rw [if_pos hb] at q
    cases hk : K.lookup b with
    | none => exact ⟨hb, rfl⟩
    | some o =>
      rw [hk, if_neg (by simp)] at q
      cases q
  · rw [if_neg hb] at q
    cases q
theorem argH_is (ar : ∀ a ∈ A, ArgOb h A a) {b : Addr} {u : HO} (q : argH K h A b = some u) : K.lookup b = none ∧ ∃ vs : List Value, vs.length ≤ sizeLine ∧ (∀ u ∈ vs, OkU A u) ∧
    ((h.get? b = some { cls := .type "list", data := .seq vs.toArray } ∧ u = .frz { cls := .type "list", data := .seq vs.toArray } (.lst (vs.map toV))) ∨
     (h.get? b = some { cls := .type "tuple", data := .seq vs.toArray } ∧ u = .frz { cls := .type "tuple", data := .seq vs.toArray } (.tup (vs.map toV)))) := by
  obtain ⟨hb, hk⟩ := of_argH q
  obtain ⟨vs, h1, h2, h3⟩ := ar b hb
  refine ⟨hk, vs, h1, h2, ?_⟩
  rcases h3 with e | e
  · rw [argH_at hb hk e, hoOf_lst] at q
    exact .inl ⟨e, (Option.some.inj q).symm⟩
  · rw [argH_at hb hk e, hoOf_tup] at q
    exact .inr ⟨e, (Option.some.inj q).symm⟩
theorem argH_only (ar : ∀ a ∈ A, ArgOb h A a) : OnlyF (argH K h A) := fun b => by
  cases q : argH K h A b with
  | none => exact .inl rfl
  | some u =>
    obtain ⟨_, vs, _, _, ⟨_, e⟩ | ⟨_, e⟩⟩ := argH_is ar q
    · exact .inr ⟨_, _, by rw [e]⟩
    · exact .inr ⟨_, _, by rw [e]⟩
theorem argH_ok (ar : ∀ a ∈ A, ArgOb h A a) : HOk P w (argH K h A) h := fun b u q => by
  obtain ⟨_, vs, h1, h2, ⟨e, rfl⟩ | ⟨e, rfl⟩⟩ := argH_is ar q
  · exact ⟨e, by rw [List.length_map]; exact h1, vs, _, vals_toV h2, e⟩
  · exact ⟨e, by rw [List.length_map]; exact h1, vs, vals_toV h2, _, e, rfl, _, rfl⟩
theorem seq_inj {c c' : Value} {vs us : List Value} (e : (some { cls := c, data := .seq vs.toArray } : Option Obj) = some { cls := c', data := .seq us.toArray }) : c = c' ∧ vs = us := by
  have e1 := Option.some.inj e
  have e2 : c = c' := congrArg Obj.cls e1
  have e3 : Data.seq vs.toArray = Data.seq us.toArray := congrArg Obj.data e1
  injection e3 with e4
  refine ⟨e2, ?_⟩
  have e5 := congrArg Array.toList e4
  simpa using e5
theorem argL (KX : K.In h) (ar : ∀ a ∈ A, ArgOb h A a) {a : Addr} {vs : List Value} (ha : a ∈ A) (e : h.get? a = some { cls := .type "list", data := .seq vs.toArray }) : (∀ u ∈ vs, OkU A u) ∧ SqL K (argH K h A) a (vs.map toV) := by
  obtain ⟨us, h1, h2, h3⟩ := ar a ha
  have hu : us = vs := by
    rcases h3 with q | q
    · rw [e] at q
      exact (seq_inj q).2.symm
    · rw [e] at q
      exact absurd (Value.type.inj (seq_inj q).1) (by decide)
  subst hu
  refine ⟨h2, ?_⟩
  cases hk : K.lookup a with
  | none => exact .inl (.inr ⟨_, by rw [argH_at ha hk e, hoOf_lst]⟩)
  | some o =>
    have e2 := KX a o hk
    rw [e] at e2
    obtain rfl := Option.some.inj e2
    exact .inr ⟨_, us.toArray, _, hk, rfl, rfl, rfl, by rw [List.size_toArray]; exact h1, by simpa using vals_toV h2⟩
theorem argT (KX : K.In h) (ar : ∀ a ∈ A, ArgOb h A a) {a : Addr} {vs : List Value} (ha : a ∈ A) (e : h.get? a = some { cls := .type "tuple", data := .seq vs.toArray }) : (∀ u ∈ vs, OkU A u) ∧ SqT K (argH K h A) a (vs.map toV) := by
  obtain ⟨us, h1, h2, h3⟩ := ar a ha
  have hu : us = vs := by
    rcases h3 with q | q
    · rw [e] at q
      exact absurd (Value.type.inj (seq_inj q).1) (by decide)
    · rw [e] at q
      exact (seq_inj q).2.symm
  subst hu
  refine ⟨h2, ?_⟩
  cases hk : K.lookup a with
  | none => exact .inl (.inr ⟨_, by rw [argH_at ha hk e, hoOf_tup]⟩)
  | some o =>
    have e2 := KX a o hk
    rw [e] at e2
    obtain rfl := Option.some.inj e2
    exact .inr ⟨_, us.toArray, _, hk, rfl, rfl, by rw [List.size_toArray]; exact h1, by simpa using vals_toV h2⟩
mutual
theorem dw_one {Pm : Params} (KX : K.In h) (ar : ∀ a ∈ A, ArgOb h A a) : ∀ (d : WData) (v : Value), Well Pm h v d → plW d = true → OkU A v → Dw K (argH K h A) (toV v) d
  | .none, _, x, _, _ => by
    cases x
    exact .non
  | .bool b, _, x, _, _ => by
    cases x
    exact .bl b
  | .int i, _, x, _, _ => by
    cases x
    exact .int i
  | .str s, _, x, _, _ => by
    cases x
    exact .str s
  | .bytes b, _, x, _, _ => by
    cases x
    have z := Dw.byt (K := K) (H := argH K h A) b.toArray
    exact z
  | .list ds, _, x, p, hu => by
    obtain ⟨a, vs, rfl, ho, hall⟩ := well_list x
    obtain ⟨h2, hs⟩ := argL KX ar hu ho
    exact .lst hs (dw_all KX ar ds _ hall p h2)
  | .tuple ds, _, x, p, hu => by
    obtain ⟨a, vs, rfl, ho, hall⟩ := well_tuple x
    obtain ⟨h2, hs⟩ := argT KX ar hu ho
    exact .tup hs (dw_all KX ar ds _ hall p h2)
  | .float _, _, _, p, _ => Bool.noConfusion (show false = true from p)
  | .dict _, _, _, p, _ => Bool.noConfusion (show false = true from p)
  | .bytearray _, _, _, p, _ => Bool.noConfusion (show false = true from p)
  | .set _, _, _, p, _ => Bool.noConfusion (show false = true from p)
  | .frozenset _, _, _, p, _ => Bool.noConfusion (show false = true from p)
  | .obj _ _, _, _, p, _ => Bool.noConfusion (show false = true from p)
theorem dw_all {Pm : Params} (KX : K.In h) (ar : ∀ a ∈ A, ArgOb h A a) : ∀ (ds : List WData) (vs : List Value), WellAll Pm h vs ds → plWs ds = true → (∀ u ∈ vs, OkU A u) → DwAll K (argH K h A) (vs.map toV) ds
  | [], _, x, _, _ => by
    cases x
    exact .nil
  | d :: ds, _, x, p, hu => by
    obtain ⟨v, vs, rfl, x1, x2⟩ := well_cons x
    have q : plW d = true ∧ plWs ds = true := Bool.and_eq_true_iff.mp p
    exact .cons (dw_one KX ar d v x1 q.1 (hu _ (List.mem_cons_self ..))) (dw_all KX ar ds vs x2 q.2 fun u m => hu u (List.mem_cons_of_mem _ m))
end
end
theorem spec_call {P : Program} {w : World} {K : PySem.W.Frag} {mg mb : Str → Option Value} {CX : CXT} {k : Nat} {fa : Addr} {fd : FuncData} {ps : List Str} {sp : Sp} {s₁ : Shared} {vals : List Value} {ds : List WData} {R : PySem.W.WRecords} {cl : Str → Option Addr} {d0 : WData}
    (KX : K.In s₁.heap) (hns : s₁.heap.Ns mainGlobals mg) (hb : s₁.heap.Ns builtinsNs mb) (hbb : ∀ x : Str, x ≠ "__name__" → mb x = bootBuiltins x) (hlim : s₁.heap.NoLimit) (hg : s₁.gens = #[])
    (hwl : WellAll w.params s₁.heap vals ds) (hpl : plWs ds = true) (hwt : ∀ d ∈ ds, d.weight ≤ 1048576) (hr : Room k callerA)
    (F : ∀ base : Heap, K.In base → base.Ns mainGlobals mg → FnOk P w K mg base CX k fa fd ps sp) (hbind : ∀ (s : Shared) (us : List Value), us.length = ps.length → BindsTo s fd ⟨us, []⟩ (ps.zip us)) (hlen : ds.length = ps.length)
    (hsp : ∀ (H : Hp) (xs : List V), OnlyF H → DwAll K H xs ds → sp xs H (fun v H' => Dw K H' v d0) fun _ _ _ => False)
    (hCX : ∀ H e s', CX [] H s₁ (fun _ _ _ => False) e s' → False) :
    codeAny (model P w) callerA (.call (.ref fa) ⟨vals, []⟩) (fun r s' => ∃ u as, r = .ok (.ret u) ∧ ReadsW R cl s'.heap u d0 as ∧ OldK s₁.heap s'.heap ∧ s'.os = s₁.os ∧ AllBare s'.gens) s₁ := by
  obtain ⟨A, ho, ar⟩ := area_all ds vals hwl hpl hwt
  have hO : OnlyF (argH K s₁.heap A) := argH_only ar
  have hok : HOk P w (argH K s₁.heap A) s₁.heap := argH_ok ar
  have hS := dw_all KX ar ds vals hwl hpl ho
  have hV := vals_toV ho
  have hK : ∀ b u, argH K s₁.heap A b = some u → K.lookup b = none := fun b u q => (argH_is ar q).1
  have noA : ∀ {b : Addr} {o : Obj} {es : Array DictEntry} {ep : Nat}, s₁.heap.get? b = some o → o.data = .dict es ep → argH K s₁.heap A b = none := fun {b o es ep} e d => by
    cases q : argH K s₁.heap A b with
    | none => rfl
    | some u =>
      obtain ⟨_, vs, _, _, ⟨e2, _⟩ | ⟨e2, _⟩⟩ := argH_is ar q
      · rw [e2] at e
        cases e
        have d' : Data.seq vs.toArray _ = Data.dict es ep := d
        cases d'
      · rw [e2] at e
        cases e
        have d' : Data.seq vs.toArray _ = Data.dict es ep := d
        cases d'
  generalize argH K s₁.heap A = H at hO hok hS hK noA
  have base_of : ∀ {b : Addr} {o : Obj}, s₁.heap.get? b = some o → H b = none → (hidT s₁.heap H).get? b = some o := fun e n => hidT_get e n
  have nsK : ∀ {b : Addr} {m : Str → Option Value}, s₁.heap.Ns b m → (hidT s₁.heap H).Ns b m := fun {b m} ⟨o, es, ep, e, d, r⟩ => ⟨o, es, ep, base_of e (noA e d), d, r⟩
  have nK : ∀ b o, K.lookup b = some o → H b = none := fun b o e => by
    cases q : H b with
    | none => rfl
    | some u =>
      rw [hK b u q] at e
      cases e
  have hKb : K.In (hidT s₁.heap H) := fun b o e => base_of (KX b o e) (nK b o e)
  have hM : Mod K mg (hidT s₁.heap H) := ⟨hKb, nsK hns, ⟨mb, nsK hb, hbb⟩, let ⟨mc, h1, h2⟩ := hlim; ⟨mc, nsK h1, h2⟩⟩
  have e0 : Env0 P w K mg (hidT s₁.heap H) callerA [] s₁ H := ⟨rfl, hM, fun b o e => of_hidT e, Nat.le_of_eq (hidT_size _ _), trivial, fun b hb => absurd (show b ∈ ([] : List Addr) from hb) (by simp), hok, .of_eq hg⟩
  have hl : vals.length = ps.length := by rw [wellAll_len hwl]; exact hlen
  refine codeAny_mono ((F _ hKb (nsK hns)).run callerA [] s₁ H ⟨vals, []⟩ vals (vals.map toV) _ _ hr e0 (hbind s₁ vals hl) hV (hsp H _ hO hS)) fun r s' x => ?_
  cases r with
  | error e => exact (hCX H e s' x).elim
  | ok fl =>
    cases fl with
    | next => exact False.elim x
    | brk => exact False.elim x
    | cont => exact False.elim x
    | ret u =>
      obtain ⟨v, H', os, bare, un, hok', r', q⟩ := x
      have kept : ∀ b o, s₁.heap.get? b = some o → s'.heap.get? b = some o := fun b o e => by
        cases q2 : H b with
        | none => exact un.keep b o e q2 (by intro z; exact absurd (show b ∈ ([] : List Addr) from z) (by simp)) (by simp)
        | some u2 =>
          rcases hO b with z | ⟨ob, u3, z⟩
          · rw [q2] at z
            cases z
          · have z2 := un.frzs b ob _ z
            obtain ⟨e1, _⟩ := hok b _ z
            obtain ⟨e2, _⟩ := hok' b _ z2
            rw [e] at e1
            cases e1
            exact e2
      have KX' : K.In s'.heap := fun b o e => kept b o (KX b o e)
      obtain ⟨as, hrd⟩ := Dw.reads (R := R) (cl := cl) hok' KX' d0 v u q r'
      exact ⟨u, as, rfl, hrd, OldK.of_keep kept, os, bare⟩
theorem layable_weight {ds : List WData} (h : WData.layableAll ds = true) : ∀ d ∈ ds, d.weight ≤ 1048576 := fun d hd =>
  (PySem.W.layableW_iff.mp (List.all_eq_true.mp h d hd)).2.2
theorem encAll_len : ∀ (cs : List Codec) (a : Codec.denoteAll cs), (Codec.encAll cs a).length = cs.length
  | [], _ => rfl
  | c :: cs, a => by
    show (Codec.encAll cs a.2).length + 1 = cs.length + 1
    rw [encAll_len cs a.2]
theorem walk_spec {r : OpenSpec} {k : Nat} {q : Program} {loose : List Str} {XP : (Str → Option Value) → Heap → Prop} {YP : World → Heap → Prop} {d : DefRec} {K : Params → PySem.W.Frag} {CX : World → CXT} {ps : List Str} {sp : World → Sp}
    (hwell : r.wellSaid = true) (hdf : d.params.defaults = []) (hlen : r.args.length = ps.length) (hr : Room k callerA)
    (hY : ∀ (w : World) (h : Heap), YP w h → (K w.params).In h)
    (F : ∀ (w : World) (mg : Str → Option Value) (fa : Addr) (h : Heap), YP w h → (K w.params).In h → h.Ns mainGlobals mg → mg d.name = some (.ref fa) →
      ∃ fd : FuncData, (∀ (s : Shared) (us : List Value), us.length = ps.length → BindsTo s fd ⟨us, []⟩ (ps.zip us)) ∧
        ∀ base : Heap, (K w.params).In base → base.Ns mainGlobals mg → FnOk r.prog w (K w.params) mg base (CX w) k fa fd ps (sp w))
    (hsp : ∀ (w : World) (H : Hp) (xs : List V) (a : Codec.denoteAll r.args), OnlyF H → Codec.withinAll r.args a = true → Codec.app r.args r.asked a = true → DwAll (K w.params) H xs (Codec.encAll r.args a) →
      sp w xs H (fun v H' => Dw (K w.params) H' v (r.ret.enc (Codec.app r.args r.f a))) fun _ _ _ => False)
    (hCX : ∀ (w : World) (H : Hp) (s : Shared) (e : Value) (s' : Shared), CX w [] H s (fun _ _ _ => False) e s' → False) :
    PySem.W.WalkOS q loose XP YP r d [] (fun f vs => PySem.call f vs) := by
  intro w s_0 s₁ mg mb G Y fa o pm cd doc dV kV ho hd hcd hD hmg hg args vals as hpre hlay hrd hwl hlo
  obtain ⟨a, e1, e2⟩ := PySem.W.os_pre_some hpre
  obtain ⟨e3, hwi⟩ := Codec.encAll_of_decAll r.args args a e1
  subst e3
  have KX := hY w _ Y
  obtain ⟨fd, hb, hF⟩ := F w mg fa _ Y KX G.T.g hmg
  refine PySem.W.enter_call (codeAny_mono (spec_call (R := []) (cl := classAt s_0.heap) (d0 := r.ret.enc (Codec.app r.args r.f a)) KX G.T.g G.T.b G.T.builtins G.T.nolimit hg hwl (pl_encAll _ _) (layable_weight hlay) hr hF hb (by rw [encAll_len]; exact hlen)
    (fun H xs hO hS => hsp w H xs a hO hwi e2 hS) fun H e s' => hCX w H s₁ e s') fun r' s' hq => ?_)
  obtain ⟨u, as', rfl, h1, h2, h3, h4⟩ := hq
  exact ⟨.inl ⟨u, _, as', rfl, fun _ => rfl, h1, (OpenSpec.post_iff hwell hwi _ _).mpr rfl, fun z => Bool.noConfusion (show false = true from z)⟩, h2, h3, h4⟩
theorem walk_specK {r : OpenSpec} {k : Nat} {q : Program} {loose : List Str} {XP : (Str → Option Value) → Heap → Prop} {YP : World → Heap → Prop} {d : DefRec} {K : Params → PySem.W.Frag} {CX : CXT} {ps : List Str} {sp : PySem.W.Frag → Sp}
    (hwell : r.wellSaid = true) (hdf : d.params.defaults = []) (hlen : r.args.length = ps.length) (hr : Room k callerA)
    (hY : ∀ (w : World) (h : Heap), YP w h → (K w.params).In h)
    (F : ∀ (w : World) (mg : Str → Option Value) (fa : Addr) (h : Heap), YP w h → (K w.params).In h → h.Ns mainGlobals mg → mg d.name = some (.ref fa) →
      ∃ fd : FuncData, (∀ (s : Shared) (us : List Value), us.length = ps.length → BindsTo s fd ⟨us, []⟩ (ps.zip us)) ∧
        ∀ base : Heap, (K w.params).In base → base.Ns mainGlobals mg → FnOk r.prog w (K w.params) mg base CX k fa fd ps (sp (K w.params)))
    (hsp : ∀ (K : PySem.W.Frag) (H : Hp) (xs : List V) (a : Codec.denoteAll r.args), OnlyF H → Codec.withinAll r.args a = true → Codec.app r.args r.asked a = true → DwAll K H xs (Codec.encAll r.args a) →
      sp K xs H (fun v H' => Dw K H' v (r.ret.enc (Codec.app r.args r.f a))) fun _ _ _ => False)
    (hCX : ∀ (H : Hp) (s : Shared) (e : Value) (s' : Shared), CX [] H s (fun _ _ _ => False) e s' → False) :
    PySem.W.WalkOS q loose XP YP r d [] (fun f vs => PySem.call f vs) :=
  walk_spec (K := K) (CX := fun _ => CX) (sp := fun w => sp (K w.params)) hwell hdf hlen hr hY F (fun w H xs a h1 h2 h3 h4 => hsp (K w.params) H xs a h1 h2 h3 h4) fun _ H s e s' => hCX H s e s'
end L2
end
end
section
/-! Own rules over the layer: weaker readings, defs by a bundle, boxes. -/
set_option Elab.async false
set_option linter.all false
set_option maxRecDepth 100000
namespace Db
open PySem PySem.Spec PyProof.Rows L2

section
variable {X : Cx}
theorem pe_imp {e : Expr} {t t' : TE} (h : PE X e t) (hi : ∀ σ H Q, t' σ H Q → t σ H Q) : PE X e t' := fun pins s σ H Q I q => h pins s σ H Q I (hi σ H Q q)
theorem pt_imp {e : Expr} {t t' : TT} (h : PT X e t) (hi : ∀ σ H Q, t' σ H Q → t σ H Q) : PT X e t' := fun pins s σ H Q I q => h pins s σ H Q I (hi σ H Q q)
end

/-- a def of the module, all that a caller wants -/
structure Df (P : Program) (w : World) (K : PySem.W.Frag) (mg : Str → Option Value) (base : Heap) (k : Nat) (x : Str) (ps : List Str) (sp : Sp) : Prop where
  ex : ∃ (f : Addr) (fd : FuncData), FnOk P w K mg base CX0 k f fd ps sp ∧ mg x = some (.ref f) ∧ PySem.W.keepIn K (.ref f) = true ∧ Binds K fd ps []
/-- where a def stands -/
structure At (K : PySem.W.Frag) (mg : Str → Option Value) (x qual : Str) (st : Stmt) (f : Addr) (fd : FuncData) : Prop where
  fn : Fun K x qual st f fd
  mg : mg x = some (.ref f)
section
variable {X : Cx} {k : Nat} {x : Str} {ps : List Str} {sp : Sp} {p pos : Pos} {e : Expr} {es : List Expr} {t : TA}
def tFn (sp : Sp) (t : TA) : TE := fun σ H Q => t σ H fun vs H1 => sp vs H1 Q E0
/-- f(e, ..) -/
theorem pe_fn (D : Df X.prog X.w X.K X.mg X.base k x ps sp) (hr : Room k X.A) (ha : PA X (e :: es) t) (hg : Gl X x := by rfl) (hdb : (x == ("__debug__" : Str)) = false := by decide)
    (he : starEach (e :: es) X.env = (false, eval e X.env) :: starEach es X.env := by rfl) (hpl : (backTo pos (starEach es X.env)).any (·.1) = false := by rfl) :
    PE X (.Call (.Name x p) (e :: es) [] pos) (tFn sp t) := by
  obtain ⟨f, fd, F, hm, hk, hb⟩ := D.ex
  refine pe_imp (pe_call F hr hg hm hk hb .nil pass0 ha hdb he hpl) fun σ H Q h => ?_
  unfold tCall
  simp only [List.append_nil]
  exact h
end

/-! ### boxes on the heap -/
abbrev BX := Km444.Box
def bf (b : BX) : List (Str × V) := putF "north" (.int b.n) (putF "south" (.int b.s) (putF "east" (.int b.e) (putF "west" (.int b.w) [])))
theorem bf_w (b : BX) : (bf b).lookup ("west" : Str) = some (.int b.w) := by
  unfold bf
  rw [lookup_putF, if_neg (by decide +kernel), lookup_putF, if_neg (by decide +kernel), lookup_putF, if_neg (by decide +kernel), lookup_putF, if_pos rfl]
theorem bf_e (b : BX) : (bf b).lookup ("east" : Str) = some (.int b.e) := by
  unfold bf
  rw [lookup_putF, if_neg (by decide +kernel), lookup_putF, if_neg (by decide +kernel), lookup_putF, if_pos rfl]
theorem bf_s (b : BX) : (bf b).lookup ("south" : Str) = some (.int b.s) := by
  unfold bf
  rw [lookup_putF, if_neg (by decide +kernel), lookup_putF, if_pos rfl]
theorem bf_n (b : BX) : (bf b).lookup ("north" : Str) = some (.int b.n) := by
  unfold bf
  rw [lookup_putF, if_pos rfl]
def BoxAt (C : Addr) (H : Hp) (a : Addr) (b : BX) : Prop := ∃ dx, H a = some (.ins C dx (bf b))
theorem BoxAt.same {C : Addr} {H H' : Hp} {a : Addr} {b : BX} (h : BoxAt C H a b) (s : Same H H') : BoxAt C H' a b := let ⟨dx, e⟩ := h; ⟨dx, s _ _ e⟩
/-- the class of boxes -/
structure BoxCls (K : PySem.W.Frag) (C : Addr) : Prop where
  cl : Cls K C
  w : NoAttr K C "west"
  e : NoAttr K C "east"
  s : NoAttr K C "south"
  n : NoAttr K C "north"
/-- the edge of the box that an expression tells -/
def tEdge (C : Addr) (g : BX → Int) (te : TE) : TE := fun σ H Q => te σ H fun x H1 => ∃ a b, x = .ref a ∧ BoxAt C H1 a b ∧ Q (.int (g b)) H1
/-- .. of the box that a name in slot i holds -/
def tVE (C : Addr) (g : BX → Int) (i : Nat) : TE := fun σ H Q => ∃ a b, σ[i]? = some (some (.ref a)) ∧ BoxAt C H a b ∧ Q (.int (g b)) H
section
variable {X : Cx} {C : Addr} {e : Expr} {te : TE} {pos p : Pos} {f x : Str}
theorem pe_edge {g : BX → Int} (T : BoxCls X.K C) (na : NoAttr X.K C f) (lk : ∀ b, (bf b).lookup f = some (.int (g b))) (he : PE X e te) (hb : attributeBase e f X.env (eval e X.env) = eval e X.env) : PE X (.Attribute e f pos) (tEdge C g te) := by
  intro pins s σ H Q I h
  refine attr_of hb (thn (he pins s σ H _ I h) fun u s1 ⟨x, H1, I1, rx, a, b, ex, ⟨dx, ea⟩, q⟩ => ?_)
  subst ex
  cases rx
  exact getattr_ok I1 ea T.cl na (lk b) fun u2 s2 I2 ru => ⟨_, H1, I2, ru, q⟩
theorem pe_vedge {g : BX → Int} {i : Nat} (T : BoxCls X.K C) (na : NoAttr X.K C f) (lk : ∀ b, (bf b).lookup f = some (.int (g b))) (he : PE X (.Name x p) (tVar i)) (hb : attributeBase (.Name x p) f X.env (eval (.Name x p) X.env) = eval (.Name x p) X.env) :
    PE X (.Attribute (.Name x p) f pos) (tVE C g i) := pe_imp (pe_edge T na lk he hb) fun σ H Q ⟨a, b, e1, e2, q⟩ => ⟨_, e1, a, b, rfl, e2, q⟩
theorem vW (T : BoxCls X.K C) (i : Nat) (h : PE X (.Name x p) (tVar i)) (hb : attributeBase (.Name x p) "west" X.env (eval (.Name x p) X.env) = eval (.Name x p) X.env := by rfl) : PE X (.Attribute (.Name x p) "west" pos) (tVE C (·.w) i) := pe_vedge T T.w bf_w h hb
theorem vE (T : BoxCls X.K C) (i : Nat) (h : PE X (.Name x p) (tVar i)) (hb : attributeBase (.Name x p) "east" X.env (eval (.Name x p) X.env) = eval (.Name x p) X.env := by rfl) : PE X (.Attribute (.Name x p) "east" pos) (tVE C (·.e) i) := pe_vedge T T.e bf_e h hb
theorem vS (T : BoxCls X.K C) (i : Nat) (h : PE X (.Name x p) (tVar i)) (hb : attributeBase (.Name x p) "south" X.env (eval (.Name x p) X.env) = eval (.Name x p) X.env := by rfl) : PE X (.Attribute (.Name x p) "south" pos) (tVE C (·.s) i) := pe_vedge T T.s bf_s h hb
theorem vN (T : BoxCls X.K C) (i : Nat) (h : PE X (.Name x p) (tVar i)) (hb : attributeBase (.Name x p) "north" X.env (eval (.Name x p) X.env) = eval (.Name x p) X.env := by rfl) : PE X (.Attribute (.Name x p) "north" pos) (tVE C (·.n) i) := pe_vedge T T.n bf_n h hb
end

/-! ### a new box -/
def spBoxInit (C : Addr) : Sp := fun vs H Q _ => ∃ p dx w e s n, vs = [.ref p, .int w, .int e, .int s, .int n] ∧ H p = some (.ins C dx []) ∧
  ∀ H', BoxAt C H' p ⟨w, e, s, n⟩ → (∀ b o, H b = some o → b ≠ p → H' b = some o) → Q .non H'
/-- a new box comes, nothing else changes -/
def NewBox (C : Addr) (H : Hp) (b : BX) (Q : VK) : Prop := ∀ H' p, Same H H' → BoxAt C H' p b → Q (.ref p) H'
abbrev boxPs : List Str := ["self", "west", "east", "south", "north"]
structure BoxMk (P : Program) (w : World) (K : PySem.W.Frag) (mg : Str → Option Value) (base : Heap) (C : Addr) : Prop where
  ex : ∃ (f : Addr) (fd : FuncData), Mk K C f ∧ FnOk P w K mg base CX0 1 f fd boxPs (spBoxInit C) ∧ Binds K fd boxPs []
  mg : mg "Box" = some (.ref C)
section
variable {X : Cx} {C : Addr} {p pos : Pos} {e : Expr} {es : List Expr} {t : TA}
def tBox (C : Addr) (t : TA) : TE := fun σ H Q => t σ H fun vs H1 => ∃ w e s n, vs = [.int w, .int e, .int s, .int n] ∧ NewBox C H1 ⟨w, e, s, n⟩ Q
theorem pe_box (M : BoxMk X.prog X.w X.K X.mg X.base C) (hr : Room 2 X.A) (ha : PA X (e :: es) t) (hg : Gl X "Box" := by rfl) (he : starEach (e :: es) X.env = (false, eval e X.env) :: starEach es X.env := by rfl) (hpl : (backTo pos (starEach es X.env)).any (·.1) = false := by rfl) :
    PE X (.Call (.Name "Box" p) (e :: es) [] pos) (tBox C t) := by
  obtain ⟨f, fd, M1, F, hb⟩ := M.ex
  intro pins s σ H Q I h
  refine wpAny_Call_Name_kw (ld_glob I hg M.mg ?_ (by decide))
  refine PySem.W.callWith_K (h₀ := X.base) I.ok.mod.kin M1.kp (thn (ha pos pins s σ H _ I h) fun us s1 ⟨vs, H1, I1, r, w, e, s', n, ev, q⟩ => ⟨I1.kIn, ?_⟩) he hpl
  subst ev
  refine run_make M1 F hr hb .nil pass0 I1 r fun x dx nx nd hne => ?_
  exact ⟨x, dx, w, e, s', n, rfl, upd_same, fun H' hB hk => ⟨rfl, q H' x (Same.made nx nd hk) hB⟩⟩
end

/-! ### lists of boxes -/
theorem Same.upd_new {H H' : Hp} {D : Addr} {o : HO} (s : Same H H') (h : H D = Option.none) : Same H (upd H' D o) := fun b u e => by
  rw [upd_ne (ne_of_none e h)]; exact s b u e
theorem same_new {H : Hp} {D : Addr} {o : HO} (h : H D = Option.none) : Same H (upd H D o) := Same.upd_new (Same.refl H) h
/-- the boxes at some addresses -/
abbrev Bxs (C : Addr) (H : Hp) : List Addr → List BX → Prop := Paired (BoxAt C H)
theorem Bxs.same {C : Addr} {H H' : Hp} (s : Same H H') : ∀ {as : List Addr} {bs : List BX}, Bxs C H as bs → Bxs C H' as bs
  | _, _, .nil => .nil
  | _, _, .cons r t => .cons (r.same s) (Bxs.same s t)
theorem Bxs.len {C : Addr} {H : Hp} {as : List Addr} {bs : List BX} (h : Bxs C H as bs) : as.length = bs.length := Paired.length h
theorem Bxs.append {C : Addr} {H : Hp} : ∀ {as as' : List Addr} {bs bs' : List BX}, Bxs C H as bs → Bxs C H as' bs' → Bxs C H (as ++ as') (bs ++ bs')
  | _, _, _, _, .nil, s => s
  | _, _, _, _, .cons r t, s => .cons r (Bxs.append t s)
theorem Bxs.one {C : Addr} {H : Hp} {a : Addr} {b : BX} (h : BoxAt C H a b) : Bxs C H [a] [b] := .cons h .nil
theorem Bxs.get {C : Addr} {H : Hp} {as : List Addr} {bs : List BX} (h : Bxs C H as bs) {i : Nat} {a : Addr} (e : as[i]? = some a) : ∃ b, bs[i]? = some b ∧ BoxAt C H a b := paired_get h e
theorem Bxs.get' {C : Addr} {H : Hp} : ∀ {as : List Addr} {bs : List BX}, Bxs C H as bs → ∀ {i : Nat} {b : BX}, bs[i]? = some b → ∃ a, as[i]? = some a ∧ BoxAt C H a b
  | _, _, .nil, i, b, e => by simp at e
  | _, _, .cons r t, 0, b, e => by
    simp at e; subst e; exact ⟨_, rfl, r⟩
  | _, _, .cons r t, i + 1, b, e => by
    obtain ⟨a, h1, h2⟩ := Bxs.get' t (i := i) (b := b) (by simpa using e)
    exact ⟨a, by simpa using h1, h2⟩
theorem Bxs.take {C : Addr} {H : Hp} : ∀ {as : List Addr} {bs : List BX} (n : Nat), Bxs C H as bs → Bxs C H (as.take n) (bs.take n)
  | _, _, 0, _ => .nil
  | _, _, _ + 1, .nil => .nil
  | _, _, n + 1, .cons r t => .cons r (Bxs.take n t)
theorem Bxs.drop {C : Addr} {H : Hp} : ∀ {as : List Addr} {bs : List BX} (n : Nat), Bxs C H as bs → Bxs C H (as.drop n) (bs.drop n)
  | _, _, 0, h => h
  | _, _, _ + 1, .nil => .nil
  | _, _, n + 1, .cons r t => Bxs.drop n t
theorem BoxAt.lst {C : Addr} {H : Hp} {a D : Addr} {b : BX} {xs : List V} {o : HO} (h : BoxAt C H a b) (hD : H D = some (.lst xs)) : BoxAt C (upd H D o) a b := let ⟨dx, e⟩ := h; ⟨dx, by rw [upd_ne (ne_of e hD (by intro z; cases z))]; exact e⟩
theorem Bxs.lst {C : Addr} {H : Hp} {D : Addr} {xs : List V} {o : HO} (hD : H D = some (.lst xs)) : ∀ {as : List Addr} {bs : List BX}, Bxs C H as bs → Bxs C (upd H D o) as bs
  | _, _, .nil => .nil
  | _, _, .cons r t => .cons (r.lst hD) (Bxs.lst hD t)
/-- a list of boxes -/
def LstAt (C : Addr) (H : Hp) (l : Addr) (bs : List BX) : Prop := ∃ as, H l = some (.lst (as.map V.ref)) ∧ Bxs C H as bs
theorem LstAt.same {C : Addr} {H H' : Hp} {l : Addr} {bs : List BX} (h : LstAt C H l bs) (s : Same H H') : LstAt C H' l bs := let ⟨as, e, r⟩ := h; ⟨as, s _ _ e, Bxs.same s r⟩
/-- a list of boxes comes (new or not), nothing else changes -/
def NewLst (C : Addr) (H : Hp) (bs : List BX) (Q : VK) : Prop := ∀ H' p, Same H H' → LstAt C H' p bs → Q (.ref p) H'
/-- .. a new list -/
def NewLstF (C : Addr) (H : Hp) (bs : List BX) (Q : VK) : Prop := ∀ H' p, Same H H' → H p = none → LstAt C H' p bs → Q (.ref p) H'
theorem NewLst.new {C : Addr} {H : Hp} {bs : List BX} {Q : VK} (h : NewLst C H bs Q) : NewLstF C H bs Q := fun H' p s _ l => h H' p s l
theorem Bxs.imp {C : Addr} {H H' : Hp} (f : ∀ a b, BoxAt C H a b → BoxAt C H' a b) : ∀ {as : List Addr} {bs : List BX}, Bxs C H as bs → Bxs C H' as bs
  | _, _, .nil => .nil
  | _, _, .cons r t => .cons (f _ _ r) (Bxs.imp f t)
theorem get_map_ref {as : List Addr} {i : Nat} {x : V} (h : (as.map V.ref)[i]? = some x) : ∃ a, as[i]? = some a ∧ x = .ref a := by
  rw [List.getElem?_map] at h
  cases e : as[i]? with
  | none => rw [e] at h; cases h
  | some a => rw [e] at h; exact ⟨a, rfl, (Option.some.inj h).symm⟩
theorem take_snoc {α : Type} : ∀ {l : List α} {i : Nat} {x : α}, l[i]? = some x → l.take (i + 1) = l.take i ++ [x]
  | [], i, x, h => by simp at h
  | a :: l, 0, x, h => by
    have e : a = x := Option.some.inj h
    subst e; rfl
  | a :: l, i + 1, x, h => by
    have ih := take_snoc (l := l) (i := i) (x := x) h
    show a :: l.take (i + 1) = a :: l.take i ++ [x]
    rw [ih]; rfl

/-! ### and, max, min -/
theorem andV {c d : Bool} {A : Prop} {Q : VK} {H : Hp} (k : Q (.bl (c && d)) H) (h : Q (.bl d) H → A) : if c = true then A else Q (.bl false) H := by
  cases c with
  | true => exact h k
  | false => exact k
section
variable {X : Cx}
theorem cmax (hc : X.calm = true) : CallR X (.builtin "max") (fun xs H Q => ∃ i j, xs = [.int i, .int j] ∧ Q (.int (max i j)) H) := by
  intro pins s σ H xs us Q I r ⟨i, j, e, q⟩
  refine call_max2 hc pins s σ H xs us Q I r ⟨i, j, e, ?_⟩
  have : (if j > i then j else i) = max i j := by omega
  rw [this]; exact q
theorem cmin (hc : X.calm = true) : CallR X (.builtin "min") (fun xs H Q => ∃ i j, xs = [.int i, .int j] ∧ Q (.int (min i j)) H) := by
  intro pins s σ H xs us Q I r ⟨i, j, e, q⟩
  refine call_min2 hc pins s σ H xs us Q I r ⟨i, j, e, ?_⟩
  have : (if j < i then j else i) = min i j := by omega
  rw [this]; exact q
end
/-- names that the module leaves to Python -/
structure Blt (mg : Str → Option Value) : Prop where
  max : mg "max" = none
  min : mg "min" = none
  len : mg "len" = none
  sum : mg "sum" = none
  range : mg "range" = none
  enum : mg "enumerate" = none
  dict : mg "dict" = none
  list : mg "list" = none
end Db
end
section
/-! boxes.py: one theorem a def. -/
set_option Elab.async false
set_option linter.all false
set_option maxRecDepth 100000
namespace Db
open PySem PySem.Spec PyProof.Rows L2
open Km444 (Box)

def top (i : Nat) : Stmt := PySem.Challenge.pw_driftboxes_s01_answers.main.body.getD i (.Pass ⟨0, 0, 0, 0⟩)
abbrev sBoxInit : Stmt := inClass (top 1) 0
abbrev sBoxTold : Stmt := top 2
abbrev sEdges : Stmt := top 3
abbrev sHasPlaces : Stmt := top 4
abbrev sIsBoxWithin : Stmt := top 5
abbrev sIsIn : Stmt := top 6
abbrev sAmount : Stmt := top 7
abbrev sOverlap : Stmt := top 8
abbrev sRoundBoth : Stmt := top 9
abbrev sMoved : Stmt := top 10
abbrev sLess : Stmt := top 11

/-! ### promises -/
def spHasPlaces (C : Addr) : Sp := fun vs H Q _ => ∃ a b, vs = [.ref a] ∧ BoxAt C H a b ∧ Q (.bl b.full) H
def spIsBoxWithin (C : Addr) : Sp := fun vs H Q _ => ∃ a b f, vs = [.ref a, .int f] ∧ BoxAt C H a b ∧ Q (.bl (Km444.okBox f b)) H
def spIsIn (C : Addr) : Sp := fun vs H Q _ => ∃ a a' b b', vs = [.ref a, .ref a'] ∧ BoxAt C H a b ∧ BoxAt C H a' b' ∧ Q (.bl (b.inside b')) H
def spAmount (C : Addr) : Sp := fun vs H Q _ => ∃ a b, vs = [.ref a] ∧ BoxAt C H a b ∧ Bd 100000000 b ∧ Q (.int (amt b)) H
def spTwo (C : Addr) (g : Box → Box → Box) : Sp := fun vs H Q _ => ∃ a a' b b', vs = [.ref a, .ref a'] ∧ BoxAt C H a b ∧ BoxAt C H a' b' ∧ NewBox C H (g b b') Q
def spLess (C : Addr) : Sp := fun vs H Q _ => ∃ a a' b b', vs = [.ref a, .ref a'] ∧ BoxAt C H a b ∧ BoxAt C H a' b' ∧ NewLst C H (b.less b') Q
def spBoxTold (K : PySem.W.Frag) (C : Addr) : Sp := fun vs H Q _ => ∃ l w e s n r, vs = [.ref l] ∧ SqL K H l ((w :: e :: s :: n :: r).map V.int) ∧ NewBox C H ⟨w, e, s, n⟩ Q
def spEdges (C : Addr) : Sp := fun vs H Q _ => ∃ a b, vs = [.ref a] ∧ BoxAt C H a b ∧ ∀ H' p, Same H H' → H' p = some (.lst (b.told.map V.int)) → Q (.ref p) H'

section
variable {P : Program} {w : World} {K : PySem.W.Frag} {mg : Str → Option Value} {base : Heap} {C : Addr}

theorem scBoxInit : FnScope ["self", "west", "east", "south", "north"] ["self", "west", "east", "south", "north"] (defScope sBoxInit) := ⟨rfl, rfl, rfl, by decide +kernel, rfl, by decide +kernel, by decide +kernel⟩
theorem ok_boxInit {f : Addr} {fd : FuncData} (F : Fun K "__init__" "Box.__init__" sBoxInit f fd) (T : BoxCls K C) : FnOk P w K mg base CX0 1 f fd ["self", "west", "east", "south", "north"] (spBoxInit C) := by
  refine F.ok scBoxInit (fun vs H Q E h => ?_) (fun cdv A outer s H vs Q E hr h => ?_)
  · obtain ⟨p, dx, w, e, s, n, rfl, _⟩ := h
    rfl
  · obtain ⟨p, dx, w, e, s, n, rfl, hp, k⟩ := h
    refine ⟨_, pss_cons (ps_fld (pv 0) (pv 1) rfl) (pss_cons (ps_fld (pv 0) (pv 2) rfl) (pss_cons (ps_fld (pv 0) (pv 3) rfl) (pss_one (ps_fld (pv 0) (pv 4) rfl)))), ?_⟩
    refine ⟨_, rfl, _, rfl, p, C, dx, [], rfl, hp, T.cl, T.w, (by decide), ?_⟩
    refine ⟨_, rfl, _, rfl, p, C, dx, _, rfl, upd_same, T.cl, T.e, Nat.lt_of_le_of_lt (length_putF _ _ _) (by decide), ?_⟩
    refine ⟨_, rfl, _, rfl, p, C, dx, _, rfl, upd_same, T.cl, T.s, ?_, ?_⟩
    · exact Nat.lt_of_le_of_lt (Nat.le_trans (length_putF _ _ _) (Nat.succ_le_succ (length_putF _ _ _))) (by decide)
    refine ⟨_, rfl, _, rfl, p, C, dx, _, rfl, upd_same, T.cl, T.n, ?_, ?_⟩
    · exact Nat.lt_of_le_of_lt (Nat.le_trans (length_putF _ _ _) (Nat.succ_le_succ (Nat.le_trans (length_putF _ _ _) (Nat.succ_le_succ (length_putF _ _ _))))) (by decide)
    refine k _ ⟨dx, upd_same⟩ fun b o e hb => ?_
    rw [upd_ne hb, upd_ne hb, upd_ne hb, upd_ne hb]
    exact e

theorem scHasPlaces : FnScope ["box"] ["box"] (defScope sHasPlaces) := ⟨rfl, rfl, rfl, by decide +kernel, rfl, by decide +kernel, by decide +kernel⟩
theorem ok_hasPlaces {f : Addr} {fd : FuncData} (F : Fun K "has_places" "has_places" sHasPlaces f fd) (T : BoxCls K C) : FnOk P w K mg base CX0 1 f fd ["box"] (spHasPlaces C) := by
  refine F.ok scHasPlaces (fun vs H Q E h => ?_) (fun cdv A outer s H vs Q E hr h => ?_)
  · obtain ⟨a, b, rfl, _⟩ := h
    rfl
  · obtain ⟨a, b, rfl, hb, k⟩ := h
    refine ⟨_, pss_one (ps_ret (pe_and (pe_cmpR op_le (vW T 0 (pv 0)) (vE T 0 (pv 0)) (nomark _)) (pe_one (pe_cmpR op_le (vS T 0 (pv 0)) (vN T 0 (pv 0)) (nomark _))))), ?_⟩
    exact ⟨a, b, rfl, hb, a, b, rfl, hb, _, _, rfl, rfl, _, rfl, andV k fun k => ⟨a, b, rfl, hb, a, b, rfl, hb, _, _, rfl, rfl, k⟩⟩

theorem scIsIn : FnScope ["inner", "outer"] ["inner", "outer"] (defScope sIsIn) := ⟨rfl, rfl, rfl, by decide +kernel, rfl, by decide +kernel, by decide +kernel⟩
theorem ok_isIn {f : Addr} {fd : FuncData} (F : Fun K "is_in" "is_in" sIsIn f fd) (T : BoxCls K C) : FnOk P w K mg base CX0 1 f fd ["inner", "outer"] (spIsIn C) := by
  refine F.ok scIsIn (fun vs H Q E h => ?_) (fun cdv A outer s H vs Q E hr h => ?_)
  · obtain ⟨a, a', b, b', rfl, _⟩ := h
    rfl
  · obtain ⟨a, a', b, b', rfl, hb, hb', k⟩ := h
    refine ⟨_, pss_one (ps_ret (pe_and (pe_cmpR op_le (vW T 1 (pv 1)) (vW T 0 (pv 0)) (nomark _)) (pe_and (pe_cmpR op_le (vE T 0 (pv 0)) (vE T 1 (pv 1)) (nomark _)) (pe_and (pe_cmpR op_le (vS T 1 (pv 1)) (vS T 0 (pv 0)) (nomark _)) (pe_one (pe_cmpR op_le (vN T 0 (pv 0)) (vN T 1 (pv 1)) (nomark _))))))), ?_⟩
    exact ⟨a', b', rfl, hb', a, b, rfl, hb, _, _, rfl, rfl, _, rfl, andV k fun k => ⟨a, b, rfl, hb, a', b', rfl, hb', _, _, rfl, rfl, _, rfl, andV k fun k => ⟨a', b', rfl, hb', a, b, rfl, hb, _, _, rfl, rfl, _, rfl, andV k fun k => ⟨a, b, rfl, hb, a', b', rfl, hb', _, _, rfl, rfl, k⟩⟩⟩⟩

theorem scIsBoxWithin : FnScope ["box", "limit"] ["box", "limit"] (defScope sIsBoxWithin) := ⟨rfl, rfl, rfl, by decide +kernel, rfl, by decide +kernel, by decide +kernel⟩
theorem ok_isBoxWithin {f : Addr} {fd : FuncData} (F : Fun K "is_box_within" "is_box_within" sIsBoxWithin f fd) (T : BoxCls K C) (D : Df P w K mg base 1 "has_places" ["box"] (spHasPlaces C)) : FnOk P w K mg base CX0 2 f fd ["box", "limit"] (spIsBoxWithin C) := by
  refine F.ok scIsBoxWithin (fun vs H Q E h => ?_) (fun cdv A outer s H vs Q E hr h => ?_)
  · obtain ⟨a, b, g, rfl, _⟩ := h
    rfl
  · obtain ⟨a, b, g, rfl, hb, k⟩ := h
    refine ⟨_, pss_cons (ps_if (pt_not (pt_val (pe_fn D hr (pa_cons (pv 0) pa_nil)))) (pss_one (ps_ret pe_bl)) pss_nil)
      (pss_one (ps_ret (pe_and (pe_cmpR op_le (pe_un un_neg (pv 1)) (vW T 0 (pv 0)) (nomark _)) (pe_and (pe_cmpR op_le (vE T 0 (pv 0)) (pv 1) (nomark _)) (pe_and (pe_cmpR op_le (pe_un un_neg (pv 1)) (vS T 0 (pv 0)) (nomark _)) (pe_one (pe_cmpR op_le (vN T 0 (pv 0)) (pv 1) (nomark _)))))))), ?_⟩
    refine ⟨_, rfl, a, b, rfl, hb, _, rfl, ?_⟩
    have k : Q (.bl (b.full && (decide (-g ≤ b.w) && (decide (b.e ≤ g) && (decide (-g ≤ b.s) && decide (b.n ≤ g)))))) H := k
    cases e : b.full with
    | false =>
      rw [e] at k
      exact iteT k
    | true =>
      rw [e] at k
      refine iteF ?_
      have k : Q (.bl (decide (-g ≤ b.w) && (decide (b.e ≤ g) && (decide (-g ≤ b.s) && decide (b.n ≤ g))))) H := k
      exact ⟨_, rfl, _, rfl, a, b, rfl, hb, _, _, rfl, rfl, _, rfl, andV k fun k => ⟨a, b, rfl, hb, _, rfl, _, _, rfl, rfl, _, rfl, andV k fun k => ⟨_, rfl, _, rfl, a, b, rfl, hb, _, _, rfl, rfl, _, rfl, andV k fun k => ⟨a, b, rfl, hb, _, rfl, _, _, rfl, rfl, k⟩⟩⟩⟩

theorem scAmount : FnScope ["box"] ["box"] (defScope sAmount) := ⟨rfl, rfl, rfl, by decide +kernel, rfl, by decide +kernel, by decide +kernel⟩
theorem ok_amount {f : Addr} {fd : FuncData} (F : Fun K "amount" "amount" sAmount f fd) (T : BoxCls K C) : FnOk P w K mg base CX0 1 f fd ["box"] (spAmount C) := by
  refine F.ok scAmount (fun vs H Q E h => ?_) (fun cdv A outer s H vs Q E hr h => ?_)
  · obtain ⟨a, b, rfl, _⟩ := h
    rfl
  · obtain ⟨a, b, rfl, hb, bd, k⟩ := h
    refine ⟨_, pss_one (ps_ret (pe_op op_mul (pe_op op_add (pe_op op_sub (vE T 0 (pv 0)) (vW T 0 (pv 0))) pe_int) (pe_op op_add (pe_op op_sub (vN T 0 (pv 0)) (vS T 0 (pv 0))) pe_int))), ?_⟩
    refine ⟨a, b, rfl, hb, a, b, rfl, hb, _, _, rfl, rfl, _, _, rfl, rfl, a, b, rfl, hb, a, b, rfl, hb, _, _, rfl, rfl, _, _, rfl, rfl, _, _, rfl, rfl, .inl ?_, k⟩
    obtain ⟨_, _, _, _, _, _⟩ := bd
    simp only
    omega

theorem scOverlap : FnScope ["one", "other"] ["one", "other"] (defScope sOverlap) := ⟨rfl, rfl, rfl, by decide +kernel, rfl, by decide +kernel, by decide +kernel⟩
theorem ok_overlap {f : Addr} {fd : FuncData} (F : Fun K "overlap" "overlap" sOverlap f fd) (T : BoxCls K C) (M : BoxMk P w K mg base C) (B : Blt mg) : FnOk P w K mg base CX0 3 f fd ["one", "other"] (spTwo C Box.meet) := by
  refine F.ok scOverlap (fun vs H Q E h => ?_) (fun cdv A outer s H vs Q E hr h => ?_)
  · obtain ⟨a, a', b, b', rfl, _⟩ := h
    rfl
  · obtain ⟨a, a', b, b', rfl, hb, hb', k⟩ := h
    refine ⟨_, pss_one (ps_ret (pe_box M hr (pa_cons (pe_callB (cmax rfl) rfl B.max boot_max (pa_cons (vW T 0 (pv 0)) (pa_cons (vW T 1 (pv 1)) pa_nil))) (pa_cons (pe_callB (cmin rfl) rfl B.min boot_min (pa_cons (vE T 0 (pv 0)) (pa_cons (vE T 1 (pv 1)) pa_nil)))
      (pa_cons (pe_callB (cmax rfl) rfl B.max boot_max (pa_cons (vS T 0 (pv 0)) (pa_cons (vS T 1 (pv 1)) pa_nil))) (pa_cons (pe_callB (cmin rfl) rfl B.min boot_min (pa_cons (vN T 0 (pv 0)) (pa_cons (vN T 1 (pv 1)) pa_nil))) pa_nil)))))), ?_⟩
    exact ⟨a, b, rfl, hb, a', b', rfl, hb', _, _, rfl, a, b, rfl, hb, a', b', rfl, hb', _, _, rfl, a, b, rfl, hb, a', b', rfl, hb', _, _, rfl, a, b, rfl, hb, a', b', rfl, hb', _, _, rfl, _, _, _, _, rfl, k⟩

theorem scRoundBoth : FnScope ["one", "other"] ["one", "other"] (defScope sRoundBoth) := ⟨rfl, rfl, rfl, by decide +kernel, rfl, by decide +kernel, by decide +kernel⟩
theorem ok_roundBoth {f : Addr} {fd : FuncData} (F : Fun K "round_both" "round_both" sRoundBoth f fd) (T : BoxCls K C) (M : BoxMk P w K mg base C) (B : Blt mg) : FnOk P w K mg base CX0 3 f fd ["one", "other"] (spTwo C Box.join) := by
  refine F.ok scRoundBoth (fun vs H Q E h => ?_) (fun cdv A outer s H vs Q E hr h => ?_)
  · obtain ⟨a, a', b, b', rfl, _⟩ := h
    rfl
  · obtain ⟨a, a', b, b', rfl, hb, hb', k⟩ := h
    refine ⟨_, pss_one (ps_ret (pe_box M hr (pa_cons (pe_callB (cmin rfl) rfl B.min boot_min (pa_cons (vW T 0 (pv 0)) (pa_cons (vW T 1 (pv 1)) pa_nil))) (pa_cons (pe_callB (cmax rfl) rfl B.max boot_max (pa_cons (vE T 0 (pv 0)) (pa_cons (vE T 1 (pv 1)) pa_nil)))
      (pa_cons (pe_callB (cmin rfl) rfl B.min boot_min (pa_cons (vS T 0 (pv 0)) (pa_cons (vS T 1 (pv 1)) pa_nil))) (pa_cons (pe_callB (cmax rfl) rfl B.max boot_max (pa_cons (vN T 0 (pv 0)) (pa_cons (vN T 1 (pv 1)) pa_nil))) pa_nil)))))), ?_⟩
    exact ⟨a, b, rfl, hb, a', b', rfl, hb', _, _, rfl, a, b, rfl, hb, a', b', rfl, hb', _, _, rfl, a, b, rfl, hb, a', b', rfl, hb', _, _, rfl, a, b, rfl, hb, a', b', rfl, hb', _, _, rfl, _, _, _, _, rfl, k⟩

theorem scMoved : FnScope ["box", "drift"] ["box", "drift"] (defScope sMoved) := ⟨rfl, rfl, rfl, by decide +kernel, rfl, by decide +kernel, by decide +kernel⟩
theorem ok_moved {f : Addr} {fd : FuncData} (F : Fun K "moved" "moved" sMoved f fd) (T : BoxCls K C) (M : BoxMk P w K mg base C) : FnOk P w K mg base CX0 3 f fd ["box", "drift"] (spTwo C Box.plus) := by
  refine F.ok scMoved (fun vs H Q E h => ?_) (fun cdv A outer s H vs Q E hr h => ?_)
  · obtain ⟨a, a', b, b', rfl, _⟩ := h
    rfl
  · obtain ⟨a, a', b, b', rfl, hb, hb', k⟩ := h
    refine ⟨_, pss_one (ps_ret (pe_box M hr (pa_cons (pe_op op_add (vW T 0 (pv 0)) (vW T 1 (pv 1))) (pa_cons (pe_op op_add (vE T 0 (pv 0)) (vE T 1 (pv 1))) (pa_cons (pe_op op_add (vS T 0 (pv 0)) (vS T 1 (pv 1))) (pa_cons (pe_op op_add (vN T 0 (pv 0)) (vN T 1 (pv 1))) pa_nil)))))), ?_⟩
    exact ⟨a, b, rfl, hb, a', b', rfl, hb', _, _, rfl, rfl, a, b, rfl, hb, a', b', rfl, hb', _, _, rfl, rfl, a, b, rfl, hb, a', b', rfl, hb', _, _, rfl, rfl, a, b, rfl, hb, a', b', rfl, hb', _, _, rfl, rfl, _, _, _, _, rfl, k⟩

theorem scEdges : FnScope ["box"] ["box"] (defScope sEdges) := ⟨rfl, rfl, rfl, by decide +kernel, rfl, by decide +kernel, by decide +kernel⟩
theorem ok_edges {f : Addr} {fd : FuncData} (F : Fun K "edges" "edges" sEdges f fd) (T : BoxCls K C) : FnOk P w K mg base CX0 1 f fd ["box"] (spEdges C) := by
  refine F.ok scEdges (fun vs H Q E h => ?_) (fun cdv A outer s H vs Q E hr h => ?_)
  · obtain ⟨a, b, rfl, _⟩ := h
    rfl
  · obtain ⟨a, b, rfl, hb, k⟩ := h
    refine ⟨_, pss_one (ps_ret (pe_lst (pa_cons (vW T 0 (pv 0)) (pa_cons (vE T 0 (pv 0)) (pa_cons (vS T 0 (pv 0)) (pa_cons (vN T 0 (pv 0)) pa_nil)))))), ?_⟩
    exact ⟨a, b, rfl, hb, a, b, rfl, hb, a, b, rfl, hb, a, b, rfl, hb, (by show 4 ≤ sizeLine; decide), fun p hp => k _ p (same_new hp) upd_same⟩

theorem scBoxTold : FnScope ["given"] ["given"] (defScope sBoxTold) := ⟨rfl, rfl, rfl, by decide +kernel, rfl, by decide +kernel, by decide +kernel⟩
theorem ok_boxTold {f : Addr} {fd : FuncData} (F : Fun K "box_told" "box_told" sBoxTold f fd) (M : BoxMk P w K mg base C) : FnOk P w K mg base CX0 3 f fd ["given"] (spBoxTold K C) := by
  refine F.ok scBoxTold (fun vs H Q E h => ?_) (fun cdv A outer s H vs Q E hr h => ?_)
  · obtain ⟨l, w, e, s, n, r, rfl, _⟩ := h
    rfl
  · obtain ⟨l, w, e, s, n, r, rfl, hl, k⟩ := h
    refine ⟨_, pss_one (ps_ret (pe_box M hr (pa_cons (pe_ix ix_list (pv 0) pe_int (fun _ _ => rfl)) (pa_cons (pe_ix ix_list (pv 0) pe_int (fun _ _ => rfl)) (pa_cons (pe_ix ix_list (pv 0) pe_int (fun _ _ => rfl)) (pa_cons (pe_ix ix_list (pv 0) pe_int (fun _ _ => rfl)) pa_nil)))))), ?_⟩
    exact ⟨_, rfl, l, _, _, _, rfl, rfl, hl, at_of (j := 0) rfl rfl, _, rfl, l, _, _, _, rfl, rfl, hl, at_of (j := 1) rfl rfl, _, rfl, l, _, _, _, rfl, rfl, hl, at_of (j := 2) rfl rfl, _, rfl, l, _, _, _, rfl, rfl, hl, at_of (j := 3) rfl rfl, _, _, _, _, rfl, k⟩
end
end Db
end
section
set_option Elab.async false
set_option linter.all false
set_option maxRecDepth 100000
namespace Db
open PySem PySem.Spec PyProof.Rows L2
open Km444 (Box)
section
variable {P : Program} {w : World} {K : PySem.W.Frag} {mg : Str → Option Value} {base : Heap} {C : Addr}
theorem filter_snoc {α : Type} {p : α → Bool} {l : List α} {i : Nat} {x : α} (h : l[i]? = some x) : (l.take (i + 1)).filter p = (l.take i).filter p ++ if p x = true then [x] else [] := by
  rw [take_snoc h, List.filter_append, List.filter_cons, List.filter_nil]
theorem scLess : FnScope ["box", "taken", "gone", "sides", "side"] ["box", "taken"] (defScope sLess) := ⟨rfl, rfl, rfl, by decide +kernel, rfl, by decide +kernel, by decide +kernel⟩
theorem ok_less {f : Addr} {fd : FuncData} (F : Fun K "less" "less" sLess f fd) (T : BoxCls K C) (M : BoxMk P w K mg base C) (Dh : Df P w K mg base 1 "has_places" ["box"] (spHasPlaces C)) (Do : Df P w K mg base 3 "overlap" ["one", "other"] (spTwo C Box.meet)) :
    FnOk P w K mg base CX0 4 f fd ["box", "taken"] (spLess C) := by
  refine F.ok scLess (fun vs H Q E h => ?_) (fun cdv A outer s H vs Q E hr h => ?_)
  · obtain ⟨a, a', b, b', rfl, _⟩ := h
    rfl
  · obtain ⟨a, a', b, b', rfl, hb, hb', k⟩ := h
    have hr1 : Room 1 _ := hr.mono (by decide)
    have hr2 : Room 2 _ := hr.mono (by decide)
    refine ⟨_, pss_cons (ps_set (i := 2) scLess.nd rfl (Or.inl rfl) (pe_fn Do hr (pa_cons (pv 0) (pa_cons (pv 1) pa_nil))))
      (pss_cons (ps_if (pt_not (pt_val (pe_fn Dh hr1 (pa_cons (pv 2) pa_nil)))) (pss_one (ps_ret (pe_lst (pa_cons (pv 0) pa_nil)))) pss_nil)
      (pss_cons (ps_set (i := 3) scLess.nd rfl (Or.inl rfl) (pe_lst (pa_cons (pe_box M hr2 (pa_cons (vW T 0 (pv 0)) (pa_cons (pe_op op_sub (vW T 2 (pv 2)) pe_int) (pa_cons (vS T 0 (pv 0)) (pa_cons (vN T 0 (pv 0)) pa_nil)))))
        (pa_cons (pe_box M hr2 (pa_cons (pe_op op_add (vE T 2 (pv 2)) pe_int) (pa_cons (vE T 0 (pv 0)) (pa_cons (vS T 0 (pv 0)) (pa_cons (vN T 0 (pv 0)) pa_nil)))))
        (pa_cons (pe_box M hr2 (pa_cons (vW T 2 (pv 2)) (pa_cons (vE T 2 (pv 2)) (pa_cons (vS T 0 (pv 0)) (pa_cons (pe_op op_sub (vS T 2 (pv 2)) pe_int) pa_nil)))))
        (pa_cons (pe_box M hr2 (pa_cons (vW T 2 (pv 2)) (pa_cons (vE T 2 (pv 2)) (pa_cons (pe_op op_add (vN T 2 (pv 2)) pe_int) (pa_cons (vN T 0 (pv 0)) pa_nil))))) pa_nil))))))
      (pss_one (ps_ret (pe_lc (own := [("side", 4)]) rfl scLess.nd (pi_list (pv 3)) (blkOk_by (by show blkC ["box", "taken", "gone", "sides", "side"] (defScope sLess) _ _ = true; decide +kernel)) (fun s H C cl fp => pg_name (i := 4) scLess.nd rfl (Or.inl rfl)) (fun s H C' cl fp => pts_one (pt_val (pe_fn Dh hr1 (pa_cons (pv 4) pa_nil)))) (fun s H C cl fp => pv 4)))))), ?_⟩
    refine ⟨_, rfl, _, rfl, a, a', b, b', rfl, hb, hb', fun H1 p s1 hg => ?_⟩
    refine ⟨_, rfl, p, _, rfl, hg, _, rfl, ?_⟩
    have hb1 := hb.same s1
    cases e : (b.meet b').full with
    | false =>
      refine iteT ⟨_, rfl, (by show 1 ≤ sizeLine; decide), fun q hq => k _ q (s1.trans (same_new hq)) ⟨[a], upd_same, ?_⟩⟩
      have el : b.less b' = [b] := by unfold Km444.Box.less; simp only [e, if_true]
      rw [el]
      exact .one (hb1.same (same_new hq))
    | true =>
      refine iteF ?_
      refine ⟨a, b, rfl, hb1, p, _, rfl, hg, _, _, rfl, rfl, a, b, rfl, hb1, a, b, rfl, hb1, _, _, _, _, rfl, fun H2 p1 s2 h1 => ?_⟩
      have hb2 := hb1.same s2
      have hg2 := hg.same s2
      refine ⟨p, _, rfl, hg2, _, _, rfl, rfl, a, b, rfl, hb2, a, b, rfl, hb2, a, b, rfl, hb2, _, _, _, _, rfl, fun H3 p2 s3 h2 => ?_⟩
      have hb3 := hb2.same s3
      have hg3 := hg2.same s3
      refine ⟨p, _, rfl, hg3, p, _, rfl, hg3, a, b, rfl, hb3, p, _, rfl, hg3, _, _, rfl, rfl, _, _, _, _, rfl, fun H4 p3 s4 h3 => ?_⟩
      have hb4 := hb3.same s4
      have hg4 := hg3.same s4
      refine ⟨p, _, rfl, hg4, p, _, rfl, hg4, p, _, rfl, hg4, _, _, rfl, rfl, a, b, rfl, hb4, _, _, _, _, rfl, fun H5 p4 s5 h4 => ?_⟩
      refine ⟨(by show 4 ≤ sizeLine; decide), fun l hl => ?_⟩
      have s6 : Same H5 (upd H5 l (.lst [.ref p1, .ref p2, .ref p3, .ref p4])) := same_new hl
      have hx : Bxs C (upd H5 l (.lst [.ref p1, .ref p2, .ref p3, .ref p4])) [p1, p2, p3, p4] (pSides b (b.meet b')) :=
        .cons ((((h1.same s3).same s4).same s5).same s6) (.cons (((h2.same s4).same s5).same s6) (.cons ((h3.same s5).same s6) (.cons (h4.same s6) .nil)))
      generalize hH6 : upd H5 l (.lst [.ref p1, .ref p2, .ref p3, .ref p4]) = H6 at s6 hx
      have hl6 : H6 l = some (.lst (([p1, p2, p3, p4] : List Addr).map V.ref)) := by rw [← hH6]; exact upd_same
      have s16 : Same H H6 := s1.trans (s2.trans (s3.trans (s4.trans (s5.trans s6))))
      refine ⟨_, rfl, l, rfl, ⟨_, SqL.of hl6⟩, fun D hD => lc_list (K := K) (a := l) (xs := ([p1, p2, p3, p4] : List Addr).map V.ref)
        (fun i H' => Same H6 H' ∧ ∃ as', H' D = some (.lst (as'.map V.ref)) ∧ Bxs C H' as' (((pSides b (b.meet b')).take i).filter Box.full)) ⟨same_new hD, [], upd_same, .nil⟩ (fun i H' _ ⟨s7, _⟩ => SqL.of (s7 _ _ hl6)) ?_ ?_⟩
      · rintro i x H' hi ⟨s7, as', hD', hB⟩
        obtain ⟨c, hc, rfl⟩ := get_map_ref hi
        obtain ⟨y, hy, hcy⟩ := hx.get hc
        refine ⟨rfl, _, rfl, c, y, rfl, hcy.same s7, _, rfl, ?_⟩
        have hlen : as'.length ≤ 4 := by
          rw [hB.len]
          exact Nat.le_trans (List.length_filter_le _ _) (by rw [List.length_take]; exact Nat.le_trans (Nat.min_le_right _ _) (by show 4 ≤ 4; decide))
        refine ite2 (fun hf => ⟨_, rfl, _, hD', (by rw [List.length_map]; exact Nat.lt_of_le_of_lt hlen (by decide)), Same.upd_new s7 hD, as' ++ [c], ?_, ?_⟩) (fun hf => ⟨s7, as', hD', ?_⟩)
        · rw [upd_same, List.map_append]; rfl
        · rw [filter_snoc hy, if_pos hf]
          exact (Bxs.lst hD' hB).append (.one ((hcy.same s7).lst hD'))
        · rw [filter_snoc hy, if_neg hf, List.append_nil]
          exact hB
      · rintro H' ⟨s7, as', hD', hB⟩
        refine k H' D (s16.trans s7) ⟨as', hD', ?_⟩
        have e2 : b.less b' = (pSides b (b.meet b')).filter Box.full := by
          rw [← pLess_eq]
          unfold pLess
          rw [if_neg (by rw [e]; decide)]
        rw [e2]
        exact hB
end
end Db
end
section
set_option Elab.async false
set_option linter.all false
set_option maxRecDepth 100000
namespace Db
open PySem PySem.Spec PyProof.Rows L2
open Km444 (Box dry)

/-- a loop of n turns, whatever is walked -/
theorem for_n {J : It} {g : TG} {tb : TS} {D : Ends} {σ : L2.St} {H : Hp} (n : Nat) (Pv : Nat → L2.St → Hp → Prop) (h0 : Pv 0 σ H) (hg : ∀ i σ H, i < n → Pv i σ H → J.go i H) (hst : ∀ σ H, Pv n σ H → J.stop n H)
    (hs : ∀ i x σ H H', i < n → Pv i σ H → J.yld i H x H' → g x σ H' fun σ2 H2 => tb { D with nx := Pv (i + 1), ct := Pv (i + 1), bk := D.nx } σ2 H2) (hd : ∀ σ H, Pv n σ H → D.nx σ H) :
    ∃ W : Nat → Nat → L2.St → Hp → Prop, (∃ m, W 0 m σ H) ∧ ∀ i m σ H, W i m σ H →
      (J.stop i H ∧ D.nx σ H) ∨ (J.go i H ∧ ∃ N : L2.St → Hp → Prop, (∀ σ' H', N σ' H' → ∃ m', m' < m ∧ W (i + 1) m' σ' H') ∧ ∀ x H', J.yld i H x H' → g x σ H' fun σ2 H2 => tb { D with nx := N, ct := N, bk := D.nx } σ2 H2) := by
  refine ⟨fun i m σ H => m = n - i ∧ i ≤ n ∧ Pv i σ H, ⟨n, rfl, Nat.zero_le _, h0⟩, ?_⟩
  rintro i m σ H ⟨rfl, hi, p⟩
  by_cases hlt : i < n
  · exact .inr ⟨hg i σ H hlt p, Pv (i + 1), fun σ' H' p' => ⟨n - (i + 1), by omega, rfl, hlt, p'⟩, fun x H' y => hs i x σ H H' hlt p y⟩
  · have e : i = n := by omega
    subst e
    exact .inl ⟨hst σ H p, hd σ H p⟩
theorem lc_n {J : It} {g : TG} {tt : TT} {te : TE} {vs : List Nat} {σ : L2.St} {H1 : Hp} {D : Addr} {Qd : Hp → Prop} (n : Nat) (Pv : Nat → Hp → Prop) (h0 : Pv 0 (upd H1 D (.lst []))) (hg : ∀ i H, i < n → Pv i H → J.go i H) (hst : ∀ H, Pv n H → J.stop n H)
    (hs : ∀ i x H H', i < n → Pv i H → J.yld i H x H' → g x (wipe σ vs) H' fun σ2 H2 => wipe σ2 vs = wipe σ vs ∧ tt σ2 H2 fun b H3 =>
      if b = true then te σ2 H3 fun y H4 => ∃ acc, H4 D = some (.lst acc) ∧ acc.length < sizeLine ∧ Pv (i + 1) (upd H4 D (.lst (acc ++ [y]))) else Pv (i + 1) H3) (hd : ∀ H, Pv n H → Qd H) :
    ∃ W : Nat → Nat → Hp → Prop, (∃ m, W 0 m (upd H1 D (.lst []))) ∧ ∀ i m H, W i m H →
      (J.stop i H ∧ Qd H) ∨ (J.go i H ∧ ∃ Nx : Hp → Prop, (∀ H', Nx H' → ∃ m', m' < m ∧ W (i + 1) m' H') ∧ ∀ x H', J.yld i H x H' → g x (wipe σ vs) H' fun σ2 H2 => wipe σ2 vs = wipe σ vs ∧ tt σ2 H2 fun b H3 =>
        if b = true then te σ2 H3 fun y H4 => ∃ acc, H4 D = some (.lst acc) ∧ acc.length < sizeLine ∧ Nx (upd H4 D (.lst (acc ++ [y]))) else Nx H3) := by
  refine ⟨fun i m H => m = n - i ∧ i ≤ n ∧ Pv i H, ⟨n, rfl, Nat.zero_le _, h0⟩, ?_⟩
  rintro i m H ⟨rfl, hi, p⟩
  by_cases hlt : i < n
  · exact .inr ⟨hg i H hlt p, Pv (i + 1), fun H' p' => ⟨n - (i + 1), by omega, rfl, hlt, p'⟩, fun x H' y => hs i x H H' hlt p y⟩
  · have e : i = n := by omega
    subst e
    exact .inl ⟨hst H p, hd H p⟩

abbrev sWithout : Stmt := top 14
abbrev sNarrowed : Stmt := top 15
abbrev sIsInAny : Stmt := top 16
abbrev sTidy : Stmt := top 17
abbrev sRoundAll : Stmt := top 18
abbrev sGrowth : Stmt := top 19

def spWithout (C : Addr) : Sp := fun vs H Q _ => ∃ l t bs ts, vs = [.ref l, .ref t] ∧ LstAt C H l bs ∧ LstAt C H t ts ∧ bs.length ≤ 8 ∧ ts.length ≤ 4 ∧ NewLst C H (dry ts bs) Q
def spNarrowed (C : Addr) : Sp := fun vs H Q _ => ∃ l a bs b, vs = [.ref l, .ref a] ∧ LstAt C H l bs ∧ BoxAt C H a b ∧ bs.length ≤ 8 ∧ NewLst C H ((bs.map fun x => x.meet b).filter Box.full) Q
def spIsInAny (C : Addr) : Sp := fun vs H Q _ => ∃ a l b bs, vs = [.ref a, .ref l] ∧ BoxAt C H a b ∧ LstAt C H l bs ∧ Q (.bl (bs.any fun x => b.inside x)) H
def spTidy (C : Addr) : Sp := fun vs H Q _ => ∃ l bs, vs = [.ref l] ∧ LstAt C H l bs ∧ bs.length ≤ 100000 ∧ NewLstF C H (Km444.tidy bs) Q
def spGrowth (C : Addr) : Sp := fun vs H Q _ => ∃ a a' b b', vs = [.ref a, .ref a'] ∧ BoxAt C H a b ∧ BoxAt C H a' b' ∧ Bd 100000000 b ∧ Bd 100000000 b' ∧ ∀ H', Same H H' → Q (.int (grow b b')) H'
def spRoundAll (C : Addr) : Sp := fun vs H Q _ => ∃ l b bs, vs = [.ref l] ∧ LstAt C H l (b :: bs) ∧ NewBox C H (bs.foldl Box.join b) Q

section
variable {P : Program} {w : World} {K : PySem.W.Frag} {mg : Str → Option Value} {base : Heap} {C : Addr}

theorem scWithout : FnScope ["boxes", "takens", "left", "taken", "parts", "box"] ["boxes", "takens"] (defScope sWithout) := ⟨rfl, rfl, rfl, by decide +kernel, rfl, by decide +kernel, by decide +kernel⟩
theorem pow4_le {i : Nat} (h : i ≤ 4) : 4 ^ i ≤ 256 := by
  have : i = 0 ∨ i = 1 ∨ i = 2 ∨ i = 3 ∨ i = 4 := by omega
  rcases this with rfl | rfl | rfl | rfl | rfl <;> decide
theorem dry_len8 {ts bs : List Box} (h1 : ts.length ≤ 4) (h2 : bs.length ≤ 8) : (dry ts bs).length ≤ 2048 := by
  have a := dry_length ts bs
  have b := pow4_le h1
  have c : 4 ^ ts.length * bs.length ≤ 256 * 8 := Nat.mul_le_mul b h2
  omega
theorem ok_without {f : Addr} {fd : FuncData} (F : Fun K "without" "without" sWithout f fd) (Dl : Df P w K mg base 4 "less" ["box", "taken"] (spLess C)) : FnOk P w K mg base CX0 5 f fd ["boxes", "takens"] (spWithout C) := by
  refine F.ok scWithout (fun vs H Q E h => ?_) (fun cdv A outer s H vs Q E hr h => ?_)
  · obtain ⟨l, t, bs, ts, rfl, _⟩ := h
    rfl
  · obtain ⟨l, t, bs, ts, rfl, hl, ⟨at_, ht, hts⟩, b8, t4, k⟩ := h
    refine ⟨_, pss_cons (ps_set (i := 2) scWithout.nd rfl (Or.inl rfl) (pv 0))
      (pss_cons (ps_for PassesOwn.never rfl (pi_list (pv 1)) (pg_name (i := 3) scWithout.nd rfl (Or.inl rfl))
        (pss_cons (ps_set (i := 4) scWithout.nd rfl (Or.inl rfl) (pe_lst pa_nil))
        (pss_cons (ps_for PassesOwn.never rfl (pi_list (pv 2)) (pg_name (i := 5) scWithout.nd rfl (Or.inl rfl))
          (pss_one (ps_expr (pe_bm PySem.F.plainAttrs_list PySem.F.slot_list_extend PySem.F.type_list_extend mt_extend (pv 4) (pa_cons (pe_fn Dl hr (pa_cons (pv 5) (pa_cons (pv 3) pa_nil))) pa_nil)))))
        (pss_one (ps_set (i := 2) scWithout.nd rfl (Or.inl rfl) (pv 4))))))
      (pss_one (ps_ret (pv 2)))), ?_⟩
    refine ⟨_, rfl, _, rfl, t, rfl, ⟨_, SqL.of ht⟩, for_list (K := K) (a := t) (xs := at_.map V.ref) (fun i σ H' => ∃ (l' : Addr) (v3 v4 v5 : Option V), σ = [some (.ref l), some (.ref t), some (.ref l'), v3, v4, v5] ∧ Same H H' ∧ LstAt C H' l' (dry (ts.take i) bs))
      ⟨l, none, none, none, rfl, Same.refl H, hl⟩ (fun i σ H' _ ⟨_, _, _, _, _, s5, _⟩ => SqL.of (s5 _ _ ht)) ?_ ?_⟩
    · rintro i y σ H' hi ⟨l', v3, v4, v5, rfl, s1, ⟨as, ha, hB⟩⟩
      obtain ⟨c, hc, rfl⟩ := get_map_ref hi
      obtain ⟨x, hx, hcx⟩ := hts.get hc
      have hi4 : i < ts.length := (List.getElem?_eq_some_iff.mp hx).1
      have blen : (dry (ts.take i) bs).length ≤ 2048 := dry_len8 (by rw [List.length_take]; omega) b8
      refine ⟨Nat.zero_le _, fun q hq => ?_⟩
      have s2 : Same H' (upd H' q (.lst [])) := same_new hq
      refine ⟨_, rfl, l', rfl, ⟨_, SqL.of (s2 _ _ ha)⟩, for_list (K := K) (a := l') (xs := as.map V.ref) (fun j σ H2 => ∃ v5 : Option V, σ = [some (.ref l), some (.ref t), some (.ref l'), some (.ref c), some (.ref q), v5] ∧ Same H' H2 ∧
          ∃ aq, H2 q = some (.lst (aq.map V.ref)) ∧ Bxs C H2 aq (((dry (ts.take i) bs).take j).flatMap fun b => b.less x))
        ⟨v5, rfl, s2, [], upd_same, .nil⟩ (fun j σ H2 _ ⟨_, _, s3, _⟩ => SqL.of (s3 _ _ ha)) ?_ ?_⟩
      · rintro j y σ H2 hj ⟨v5, rfl, s3, aq, hq2, hBq⟩
        obtain ⟨d, hd, rfl⟩ := get_map_ref hj
        obtain ⟨z, hz, hdz⟩ := hB.get hd
        refine ⟨_, rfl, .inl ⟨rfl, _, SqL.of hq2⟩, _, rfl, _, rfl, d, c, z, x, rfl, hdz.same s3, hcx.same (s1.trans s3), fun H3 p s4 ⟨ap, hp, hBp⟩ => ?_⟩
        have l1 : aq.length ≤ 8192 := by
          rw [hBq.len]
          have := flatMap_length_le (fun b => less_length b x) ((dry (ts.take i) bs).take j)
          have h2 : ((dry (ts.take i) bs).take j).length ≤ 2048 := by rw [List.length_take]; omega
          omega
        have l2 : ap.length ≤ 4 := by rw [hBp.len]; exact less_length z x
        refine ⟨q, p, _, _, rfl, rfl, s4 _ _ hq2, hp, ?_, ?_⟩
        · rw [List.length_map, List.length_map, sizeLine_eq]; omega
        · refine ⟨_, rfl, Same.upd_new (s3.trans s4) hq, aq ++ ap, ?_, ?_⟩
          · rw [upd_same, List.map_append]
          · have e : ((dry (ts.take i) bs).take (j + 1)).flatMap (fun b => b.less x) = ((dry (ts.take i) bs).take j).flatMap (fun b => b.less x) ++ z.less x := by
              rw [take_snoc hz, List.flatMap_append]
              simp
            rw [e]
            exact (Bxs.lst (s4 _ _ hq2) (Bxs.same s4 hBq)).append (Bxs.lst (s4 _ _ hq2) hBp)
      · rintro σ H2 ⟨v5, rfl, s3, aq, hq2, hBq⟩
        refine ⟨_, rfl, q, _, _, _, rfl, s1.trans s3, aq, hq2, ?_⟩
        rw [List.length_map, hB.len, List.take_length] at hBq
        rw [take_snoc hx, dry_snoc]
        exact hBq
    · rintro σ H' ⟨l', v3, v4, v5, rfl, s1, hL⟩
      rw [List.length_map, hts.len, List.take_length] at hL
      exact ⟨_, rfl, k H' l' s1 hL⟩

theorem scIsInAny : FnScope ["box", "others", "other"] ["box", "others"] (defScope sIsInAny) := ⟨rfl, rfl, rfl, by decide +kernel, rfl, by decide +kernel, by decide +kernel⟩
theorem ok_isInAny {f : Addr} {fd : FuncData} (F : Fun K "is_in_any" "is_in_any" sIsInAny f fd) (Di : Df P w K mg base 1 "is_in" ["inner", "outer"] (spIsIn C)) : FnOk P w K mg base CX0 2 f fd ["box", "others"] (spIsInAny C) := by
  refine F.ok scIsInAny (fun vs H Q E h => ?_) (fun cdv A outer s H vs Q E hr h => ?_)
  · obtain ⟨a, l, b, bs, rfl, _⟩ := h
    rfl
  · obtain ⟨a, l, b, bs, rfl, hb, ⟨as, hl, hB⟩, k⟩ := h
    refine ⟨_, pss_cons (ps_for PassesOwn.never rfl (pi_list (pv 1)) (pg_name (i := 2) scIsInAny.nd rfl (Or.inl rfl))
        (pss_one (ps_if (pt_val (pe_fn Di hr (pa_cons (pv 0) (pa_cons (pv 2) pa_nil)))) (pss_one (ps_ret pe_bl)) pss_nil)))
      (pss_one (ps_ret pe_bl)), ?_⟩
    refine ⟨_, rfl, l, rfl, ⟨_, SqL.of hl⟩, for_list (K := K) (a := l) (xs := as.map V.ref) (fun i σ H' => ∃ v : Option V, σ = [some (.ref a), some (.ref l), v] ∧ H' = H ∧ ((bs.take i).any fun x => b.inside x) = false)
      ⟨none, rfl, rfl, rfl⟩ (fun i σ H' _ ⟨_, _, e, _⟩ => by rw [e]; exact SqL.of hl) ?_ ?_⟩
    · rintro i y σ H' hi ⟨v, rfl, rfl, hn⟩
      obtain ⟨c, hc, rfl⟩ := get_map_ref hi
      obtain ⟨x, hx, hcx⟩ := hB.get hc
      refine ⟨_, rfl, _, rfl, a, c, b, x, rfl, hb, hcx, _, rfl, ?_⟩
      refine ite2 (fun h => ?_) (fun h => ⟨_, rfl, rfl, ?_⟩)
      · have e : (bs.any fun x => b.inside x) = true := List.any_eq_true.mpr ⟨x, List.mem_of_getElem? hx, h⟩
        rw [e] at k
        exact k
      · rw [take_snoc hx, List.any_append, hn]
        simpa using h
    · rintro σ H' ⟨v, rfl, rfl, hn⟩
      rw [List.length_map, hB.len, List.take_length] at hn
      rw [hn] at k
      exact k

theorem scGrowth : FnScope ["one", "other"] ["one", "other"] (defScope sGrowth) := ⟨rfl, rfl, rfl, by decide +kernel, rfl, by decide +kernel, by decide +kernel⟩
theorem ok_growth {f : Addr} {fd : FuncData} (F : Fun K "growth" "growth" sGrowth f fd) (Da : Df P w K mg base 1 "amount" ["box"] (spAmount C)) (Dr : Df P w K mg base 3 "round_both" ["one", "other"] (spTwo C Box.join)) : FnOk P w K mg base CX0 4 f fd ["one", "other"] (spGrowth C) := by
  refine F.ok scGrowth (fun vs H Q E h => ?_) (fun cdv A outer s H vs Q E hr h => ?_)
  · obtain ⟨a, a', b, b', rfl, _⟩ := h
    rfl
  · obtain ⟨a, a', b, b', rfl, hb, hb', d, d', k⟩ := h
    have hr1 : Room 1 _ := hr.mono (by decide)
    refine ⟨_, pss_one (ps_ret (pe_op op_sub (pe_op op_sub (pe_fn Da hr1 (pa_cons (pe_fn Dr hr (pa_cons (pv 0) (pa_cons (pv 1) pa_nil))) pa_nil)) (pe_fn Da hr1 (pa_cons (pv 0) pa_nil))) (pe_fn Da hr1 (pa_cons (pv 1) pa_nil)))), ?_⟩
    refine ⟨_, rfl, _, rfl, a, a', b, b', rfl, hb, hb', fun H1 p s1 hp => ?_⟩
    refine ⟨p, _, rfl, hp, d.join d', _, rfl, a, b, rfl, hb.same s1, d, _, _, rfl, rfl, _, rfl, a', b', rfl, hb'.same s1, d', _, _, rfl, rfl, k H1 s1⟩

theorem scRoundAll : FnScope ["boxes", "whole", "box"] ["boxes"] (defScope sRoundAll) := ⟨rfl, rfl, rfl, by decide +kernel, rfl, by decide +kernel, by decide +kernel⟩
theorem join_self (b : Box) : b.join b = b := by
  unfold Km444.Box.join
  cases b
  simp only [Km444.Box.mk.injEq]
  omega
theorem ok_roundAll {f : Addr} {fd : FuncData} (F : Fun K "round_all" "round_all" sRoundAll f fd) (Dr : Df P w K mg base 3 "round_both" ["one", "other"] (spTwo C Box.join)) : FnOk P w K mg base CX0 4 f fd ["boxes"] (spRoundAll C) := by
  refine F.ok scRoundAll (fun vs H Q E h => ?_) (fun cdv A outer s H vs Q E hr h => ?_)
  · obtain ⟨l, b, bs, rfl, _⟩ := h
    rfl
  · obtain ⟨l, b, bs, rfl, ⟨as, hl, hB⟩, k⟩ := h
    obtain ⟨a0, h0, hb0⟩ := hB.get' (i := 0) (b := b) rfl
    refine ⟨_, pss_cons (ps_set (i := 1) scRoundAll.nd rfl (Or.inl rfl) (pe_ix ix_list (pv 0) pe_int (fun _ _ => rfl)))
      (pss_cons (ps_for PassesOwn.never rfl (pi_list (pv 0)) (pg_name (i := 2) scRoundAll.nd rfl (Or.inl rfl)) (pss_one (ps_set (i := 1) scRoundAll.nd rfl (Or.inl rfl) (pe_fn Dr hr (pa_cons (pv 1) (pa_cons (pv 2) pa_nil))))))
      (pss_one (ps_ret (pv 1)))), ?_⟩
    refine ⟨_, rfl, l, _, _, _, rfl, rfl, SqL.of hl, at_of (j := 0) (v := .ref a0) rfl (by rw [List.getElem?_map, h0]; rfl), ?_⟩
    refine ⟨_, rfl, l, rfl, ⟨_, SqL.of hl⟩, for_list (K := K) (a := l) (xs := as.map V.ref) (fun i σ H' => ∃ (q : Addr) (v : Option V), σ = [some (.ref l), some (.ref q), v] ∧ Same H H' ∧ BoxAt C H' q (((b :: bs).take i).foldl Box.join b))
      ⟨a0, none, rfl, Same.refl H, hb0⟩ (fun i σ H' _ ⟨_, _, _, s1, _⟩ => SqL.of (s1 _ _ hl)) ?_ ?_⟩
    · rintro i y σ H' hi ⟨q, v, rfl, s1, hq⟩
      obtain ⟨c, hc, rfl⟩ := get_map_ref hi
      obtain ⟨x, hx, hcx⟩ := hB.get hc
      refine ⟨_, rfl, _, rfl, q, c, _, x, rfl, hq, hcx.same s1, fun H2 p s2 hp => ⟨p, _, rfl, s1.trans s2, ?_⟩⟩
      rw [take_snoc hx, List.foldl_append]
      exact hp
    · rintro σ H' ⟨q, v, rfl, s1, hq⟩
      rw [List.length_map, hB.len, List.take_length, List.foldl_cons, join_self] at hq
      exact ⟨_, rfl, k H' q s1 hq⟩
end
end Db
end
section
set_option Elab.async false
set_option linter.all false
set_option maxRecDepth 100000
namespace Db
open PySem PySem.Spec PyProof.Rows L2
open Km444 (Box dry tidyGo)
section
variable {P : Program} {w : World} {K : PySem.W.Frag} {mg : Str → Option Value} {base : Heap} {C : Addr}

theorem scNarrowed : FnScope ["boxes", "sighting", "parts", "box", "part"] ["boxes", "sighting"] (defScope sNarrowed) := ⟨rfl, rfl, rfl, by decide +kernel, rfl, by decide +kernel, by decide +kernel⟩
theorem ok_narrowed {f : Addr} {fd : FuncData} (F : Fun K "narrowed" "narrowed" sNarrowed f fd) (Dh : Df P w K mg base 1 "has_places" ["box"] (spHasPlaces C)) (Do : Df P w K mg base 3 "overlap" ["one", "other"] (spTwo C Box.meet)) : FnOk P w K mg base CX0 4 f fd ["boxes", "sighting"] (spNarrowed C) := by
  refine F.ok scNarrowed (fun vs H Q E h => ?_) (fun cdv A outer s H vs Q E hr h => ?_)
  · obtain ⟨l, a, bs, b, rfl, _⟩ := h
    rfl
  · obtain ⟨l, a, bs, b, rfl, ⟨as, hl, hB⟩, hb, b8, k⟩ := h
    have hr1 : Room 1 _ := hr.mono (by decide)
    refine ⟨_, pss_cons (ps_setLc (i := 2) (own := [("box", 3)]) rfl scNarrowed.nd rfl rfl (sw_true rfl rfl rfl (by decide +kernel)) (pi_list (pv 0)) (blkOk_by (by show blkC ["boxes", "sighting", "parts", "box", "part"] (defScope sNarrowed) _ _ = true; decide +kernel))
        (fun s H C cl fp => pg_name (i := 3) scNarrowed.nd rfl (Or.inl rfl)) (fun s H C' cl fp => pts_nil) (fun s H C' cl fp => pe_fn Do hr (pa_cons (pv 3) (pa_cons (pv 1) pa_nil))))
      (pss_one (ps_ret (pe_lc (own := [("part", 4)]) rfl scNarrowed.nd (pi_list (pv 2)) (blkOk_by (by show blkC ["boxes", "sighting", "parts", "box", "part"] (defScope sNarrowed) _ _ = true; decide +kernel))
        (fun s H C cl fp => pg_name (i := 4) scNarrowed.nd rfl (Or.inl rfl)) (fun s H C' cl fp => pts_one (pt_val (pe_fn Dh hr1 (pa_cons (pv 4) pa_nil)))) (fun s H C cl fp => pv 4)))), ?_⟩
    refine ⟨_, rfl, l, rfl, ⟨_, SqL.of hl⟩, fun D hD => ?_⟩
    refine lc_list (K := K) (a := l) (xs := as.map V.ref)
      (fun i H' => Same H H' ∧ ∃ aq, H' D = some (.lst (aq.map V.ref)) ∧ Bxs C H' aq ((bs.take i).map fun x => x.meet b)) ⟨same_new hD, [], upd_same, .nil⟩ (fun i H' _ ⟨s7, _⟩ => SqL.of (s7 _ _ hl)) ?_ ?_
    · rintro i x H' hi ⟨s1, aq, hq, hBq⟩
      obtain ⟨c, hc, rfl⟩ := get_map_ref hi
      obtain ⟨y, hy, hcy⟩ := hB.get hc
      refine ⟨rfl, ?_⟩
      refine ⟨_, rfl, _, rfl, c, a, y, b, rfl, hcy.same s1, hb.same s1, fun H3 p s3 hp => ⟨_, s3 _ _ hq, ?_, Same.upd_new (s1.trans s3) hD, aq ++ [p], ?_, ?_⟩⟩
      · rw [List.length_map, hBq.len, List.length_map, List.length_take, sizeLine_eq]; omega
      · rw [upd_same, List.map_append]; rfl
      · rw [take_snoc hy, List.map_append]
        exact (Bxs.lst (s3 _ _ hq) (Bxs.same s3 hBq)).append (.one (hp.lst (s3 _ _ hq)))
    · rintro H' ⟨s1, aq, hq, hBq⟩
      rw [List.length_map, hB.len, List.take_length] at hBq
      refine ⟨_, rfl, D, rfl, ⟨_, SqL.of hq⟩, fun D2 hD2 => lc_list (K := K) (a := D) (xs := aq.map V.ref)
        (fun i H2 => Same H' H2 ∧ ∃ ar, H2 D2 = some (.lst (ar.map V.ref)) ∧ Bxs C H2 ar (((bs.map fun x => x.meet b).take i).filter Box.full)) ⟨same_new hD2, [], upd_same, .nil⟩ (fun i H2 _ ⟨s7, _⟩ => SqL.of (s7 _ _ hq)) ?_ ?_⟩
      · rintro i x H2 hi ⟨s2, ar, hr2, hBr⟩
        obtain ⟨c, hc, rfl⟩ := get_map_ref hi
        obtain ⟨y, hy, hcy⟩ := hBq.get hc
        refine ⟨rfl, _, rfl, c, y, rfl, hcy.same s2, _, rfl, ?_⟩
        have hlen : ar.length ≤ 8 := by
          rw [hBr.len]
          exact Nat.le_trans (List.length_filter_le _ _) (by rw [List.length_take, List.length_map]; omega)
        refine ite2 (fun hf => ⟨_, rfl, _, hr2, (by rw [List.length_map]; exact Nat.lt_of_le_of_lt hlen (by decide)), Same.upd_new s2 hD2, ar ++ [c], ?_, ?_⟩) (fun hf => ⟨s2, ar, hr2, ?_⟩)
        · rw [upd_same, List.map_append]; rfl
        · rw [filter_snoc hy, if_pos hf]
          exact (Bxs.lst hr2 hBr).append (.one ((hcy.same s2).lst hr2))
        · rw [filter_snoc hy, if_neg hf, List.append_nil]
          exact hBr
      · rintro H2 ⟨s2, ar, hr2, hBr⟩
        rw [List.length_map, hBq.len, List.take_length] at hBr
        exact k H2 D2 (s1.trans s2) ⟨ar, hr2, hBr⟩

theorem cut_from (xs : List V) (i : Nat) : cutV xs (some ((i : Nat) : Int)) none = xs.drop i := by
  unfold cutV
  rw [HT.sIx_nat, HT.sIx_none]
  by_cases h : i ≤ xs.length
  · rw [Nat.min_eq_left h]
    exact List.take_of_length_le (by rw [List.length_drop]; omega)
  · rw [Nat.min_eq_right (by omega), List.drop_of_length_le (by omega), List.drop_of_length_le (by omega)]
    simp
theorem scTidy : FnScope ["boxes", "kept", "place", "box"] ["boxes"] (defScope sTidy) := ⟨rfl, rfl, rfl, by decide +kernel, rfl, by decide +kernel, by decide +kernel⟩
theorem ok_tidy {f : Addr} {fd : FuncData} (F : Fun K "tidy" "tidy" sTidy f fd) (B : Blt mg) (Da : Df P w K mg base 2 "is_in_any" ["box", "others"] (spIsInAny C)) : FnOk P w K mg base CX0 3 f fd ["boxes"] (spTidy C) := by
  refine F.ok scTidy (fun vs H Q E h => ?_) (fun cdv A outer s H vs Q E hr h => ?_)
  · obtain ⟨l, bs, rfl, _⟩ := h
    rfl
  · obtain ⟨l, bs, rfl, ⟨as, hl, hB⟩, blen, k⟩ := h
    refine ⟨_, pss_cons (ps_set (i := 1) scTidy.nd rfl (Or.inl rfl) (pe_lst pa_nil))
      (pss_cons (ps_for PassesOwn.never rfl (pi_enum rfl B.enum (pa_cons (pv 0) pa_nil)) (pg_tup rfl (pgs_cons (pg_name (i := 2) scTidy.nd rfl (Or.inl rfl)) (pgs_cons (pg_name (i := 3) scTidy.nd rfl (Or.inl rfl)) pgs_nil)))
        (pss_one (ps_if (pw_and (pt_not (pt_val (pe_fn Da hr (pa_cons (pv 3) (pa_cons (pv 1) pa_nil))))) (pw_and1 (pt_not (pt_val (pe_fn Da hr (pa_cons (pv 3) (pa_cons (pe_slice sl_list (pv 0) (po_some (pe_op op_add (pv 2) pe_int)) po_none) pa_nil))))))).pt
          (pss_one (ps_expr (pe_bm PySem.F.plainAttrs_list PySem.F.slot_list_append PySem.F.type_list_append mt_append (pv 1) (pa_cons (pv 3) pa_nil)))) pss_nil)))
      (pss_one (ps_ret (pv 1)))), ?_⟩
    refine ⟨Nat.zero_le _, fun q hq => ?_⟩
    have s1 : Same H (upd H q (.lst [])) := same_new hq
    have hlen : as.length = bs.length := hB.len
    refine ⟨_, rfl, l, _, rfl, SqL.of (s1 _ _ hl), for_n as.length (fun i σ H' => ∃ (v2 v3 : Option V), σ = [some (.ref l), some (.ref q), v2, v3] ∧ Same H H' ∧
        ∃ (aq : List Addr) (kept : List Box), H' q = some (.lst (aq.map V.ref)) ∧ Bxs C H' aq kept ∧ kept.length ≤ i ∧ kept ++ tidyGo kept (bs.drop i) = Km444.tidy bs)
      ⟨none, none, rfl, s1, [], [], upd_same, .nil, Nat.zero_le _, rfl⟩ (fun i σ H' hi ⟨_, _, _, s2, _⟩ => ⟨_, .ref as[i], SqL.of (s2 _ _ hl), by rw [List.getElem?_map, List.getElem?_eq_getElem hi]; rfl⟩)
      (fun σ H' ⟨_, _, _, s2, _⟩ => ⟨_, SqL.of (s2 _ _ hl), by rw [List.length_map]; exact Nat.le_refl _⟩) ?_ ?_⟩
    · rintro i y σ H1 H2 hi ⟨v2, v3, rfl, s2, aq, kept, hq1, hBq, klen, hk⟩ ⟨Tt, x, rfl, hT, rfl, hx⟩
      have hx' := hx _ (SqL.of (s2 _ _ hl))
      obtain ⟨c, hc, rfl⟩ := get_map_ref hx'
      obtain ⟨z, hz, hcz⟩ := hB.get hc
      have s3 : Same H1 (upd H1 Tt (.tup [.int (i : Nat), .ref c])) := same_new hT
      refine ⟨Tt, _, rfl, SqT.of upd_same, rfl, _, _, rfl, _, _, rfl, rfl, ?_⟩
      have hc2 := (hcz.same s2).same s3
      refine ⟨_, rfl, _, rfl, c, q, z, kept, rfl, hc2, ⟨aq, s3 _ _ hq1, Bxs.same s3 hBq⟩, _, rfl, ?_⟩
      have hd : bs.drop i = z :: bs.drop (i + 1) := by
        obtain ⟨h1, h2⟩ := List.getElem?_eq_some_iff.mp hz
        rw [List.drop_eq_getElem_cons h1, h2]
      rw [hd] at hk
      cases e1 : (kept.any fun x => z.inside x) with
      | true =>
        refine iteF (iteF ⟨_, _, rfl, s2.trans s3, aq, kept, s3 _ _ hq1, Bxs.same s3 hBq, by omega, ?_⟩)
        simp only [tidyGo, e1, true_or, if_true] at hk
        exact hk
      | false =>
        refine iteT ⟨_, rfl, _, rfl, _, rfl, _, _, rfl, rfl, _, rfl, l, _, rfl, SqL.of (s3 _ _ (s2 _ _ hl)), fun p hp => ?_⟩
        have ei : ((i : Nat) : Int) + 1 = ((i + 1 : Nat) : Int) := by omega
        rw [ei, cut_from, ← List.map_drop]
        have s4 : Same (upd H1 Tt (.tup [.int (i : Nat), .ref c])) (upd (upd H1 Tt (.tup [.int (i : Nat), .ref c])) p (.lst ((as.drop (i + 1)).map V.ref))) := same_new hp
        have hc3 := hc2.same s4
        have s34 := s3.trans s4
        have hq3 := s34 _ _ hq1
        refine ⟨c, p, z, bs.drop (i + 1), rfl, hc3, ⟨as.drop (i + 1), upd_same, Bxs.drop (i + 1) (Bxs.same (s2.trans s34) hB)⟩, _, rfl, ?_⟩
        cases e2 : ((bs.drop (i + 1)).any fun x => z.inside x) with
        | true =>
          refine iteF ⟨_, _, rfl, s2.trans s34, aq, kept, hq3, Bxs.same s34 hBq, by omega, ?_⟩
          simp only [tidyGo, e1, e2, or_true, if_true] at hk
          exact hk
        | false =>
          refine iteT ⟨_, rfl, .inl ⟨rfl, _, SqL.of hq3⟩, _, rfl, q, _, _, rfl, rfl, hq3, ?_, ?_⟩
          · rw [List.length_map, hBq.len, sizeLine_eq]; omega
          · refine ⟨_, _, rfl, Same.upd_new (s2.trans s34) hq, aq ++ [c], kept ++ [z], ?_, ?_, by rw [List.length_append, List.length_singleton]; omega, ?_⟩
            · rw [upd_same, List.map_append]; rfl
            · exact (Bxs.lst hq3 (Bxs.same s34 hBq)).append (.one (hc3.lst hq3))
            · simp only [tidyGo, e1, e2, Bool.false_eq_true, or_self, if_false] at hk
              rw [List.append_assoc, List.singleton_append, tidyGo_congr (bs.drop (i + 1)) (kept ++ [z]) (z :: kept) (fun x => by simp [or_comm])]
              exact hk
    · rintro σ H' ⟨v2, v3, rfl, s2, aq, kept, hq1, hBq, klen, hk⟩
      rw [hlen, List.drop_length] at hk
      simp only [tidyGo, List.append_nil] at hk
      subst hk
      exact ⟨_, rfl, k H' q s2 hq ⟨aq, hq1, hBq⟩⟩
end
end Db
end
section
/-! min of a list of tuples of ints; list(d.values()). -/
set_option Elab.async false
set_option linter.all false
set_option maxRecDepth 100000
namespace Db
open PySem PySem.Spec PyProof.Rows L2
open Km444 (Box)

section
variable {prog : Program} {w : World} {A : Around} {R : Result → Shared → Prop} {I : Addr} {fp wr : List Addr} {n : Nat} {P : Nat → Value → Prop} {Sx : Nat → Heap → Prop}
/-- the turns of min, the comparing told by what stands on the heap -/
theorem min_turns (W : Walks prog w A.in1 I fp wr n P Sx) (bt : Nat → Nat → Bool) (S : Addr) (G : Heap → Prop) (gk : ∀ h1 h2 : Heap, G h1 → (∀ b o, b ∉ wr → b ≠ S → h1.get? b = some o → h2.get? b = some o) → G h2)
    (gc : ∀ i j vi vj (s1 : Shared) (Q1 : Value → Shared → Prop) (E1 : Value → Shared → Prop), G s1.heap → P i vi → P j vj → Q1 (.bool (bt i j)) s1 → wpAny (model prog w) A.in1 (richCompare .Lt vi vj) Q1 E1 s1) (hSf : S ∉ fp) :
    ∀ (k j : Nat) (s : Shared) (vb : Value) (c : Nat), n - (j + 1) = k → j + 1 ≤ n → G s.heap → Sx (j + 1) s.heap → P (argBest bt j) vb →
    s.heap.get? S = some { cls := .type "list", dict := none, data := .seq #[vb, vb] c, slots := #[] } →
    (∀ v h1 t1, P (argBest bt (n - 1)) v → (∀ b o, b ∉ wr → b ≠ S → s.heap.get? b = some o → h1.get? b = some o) → R (.ok (.ret v)) { s with heap := h1, toks := t1 }) →
    codeAny (model prog w) A (.builtin "min.loop" ⟨[.ref I, .none, .ref S], []⟩) R s := by
  have nw : S ∉ wr := fun z => hSf (W.sub _ z)
  have nm : (toString "min" ++ toString ".loop" : String) = "min.loop" := by decide
  intro k
  induction k with
  | zero =>
    intro j s vb c ek lj g st pb sS fin
    have ej : j + 1 = n := by omega
    refine codeAny_builtin F.entry_min_loop ?_
    rw [Around.under_plainId F.plain_min_loop _]
    refine wpAny_bind (wpAny_seqItems sS rfl ?_)
    refine wpAny_bind (wpAny_tryCatch (W.done s _ _ (ej ▸ st) fun h1 t1 k1 => ?_))
    have sS1 := k1 S _ nw sS
    refine wpAny_bind ?_
    refine wpAny_updateSeq sS1 rfl (wpAny_bind (wpAny_letGo (wpAny_pure ?_)))
    exact fin vb _ t1 (by rw [← ej]; exact pb) fun b o n1 n2 e => (Heap.get?_update_other _ _ (Ne.symm n2)).trans (k1 b o n1 e)
  | succ k ih =>
    intro j s vb c ek lj g st pb sS fin
    have lt : j + 1 < n := by omega
    refine codeAny_builtin F.entry_min_loop ?_
    rw [Around.under_plainId F.plain_min_loop _]
    refine wpAny_bind (wpAny_seqItems sS rfl ?_)
    refine wpAny_bind (wpAny_tryCatch (W.item (j + 1) s _ _ lt st fun v h1 t1 pv st1 k1 => ?_))
    have sS1 := k1 S _ nw sS
    have g1 : G h1 := gk _ _ g fun b o n1 _ e => k1 b o n1 e
    change wpAny (model prog w) A.in1 (tryCatch (holding [v, v] (richCompare .Lt v vb >>= _)) _ >>= _) _ _ _
    refine wpAny_bind (wpAny_tryCatch (wpAny_holding (wpAny_bind (gc (j + 1) (argBest bt j) v vb _ _ _ g1 pv pb ?_))))
    refine wpAny_bind (wpAny_holding (wpAny_truthy_bool ?_))
    refine wpAny_bind (wpAny_letGo (wpAny_pure ?_))
    cases eb : bt (j + 1) (argBest bt j) with
    | true =>
      simp only [if_true]
      refine wpAny_bind ?_
      refine wpAny_updateSeq sS1 rfl (wpAny_bind (wpAny_letGo ?_))
      rw [nm]
      have up : ∀ b o, b ≠ S → h1.get? b = some o → (h1.update S (Obj.mapSeq fun _ => #[v, v])).get? b = some o := fun b o n2 e => (Heap.get?_update_other _ _ (Ne.symm n2)).trans e
      refine wpAny_pure ⟨plainId_quiet F.plain_min_loop _, ih (j + 1) _ v _ (by omega) lt (gk _ _ g1 fun b o _ n2 e => up b o n2 e) (W.frame _ _ _ st1 fun b bf o e => up b o (fun z => hSf (z ▸ bf)) e)
        (by simp only [argBest, eb, if_true]; exact pv) (Heap.get?_update_self _ sS1 rfl) fun v2 h2 t2 p2 k2 => ?_⟩
      exact fin v2 h2 t2 p2 fun b o n1 n2 e => k2 b o n1 n2 (up b o n2 (k1 b o n1 e))
    | false =>
      simp only [Bool.false_eq_true, if_false]
      refine wpAny_bind (wpAny_letGo ?_)
      rw [nm]
      refine wpAny_pure ⟨plainId_quiet F.plain_min_loop _, ih (j + 1) _ vb c (by omega) lt g1 st1 (by simp only [argBest, eb, Bool.false_eq_true, if_false]; exact pb) sS1 fun v2 h2 t2 p2 k2 => ?_⟩
      exact fin v2 h2 t2 p2 fun b o n1 n2 e => k2 b o n1 n2 (k1 b o n1 e)
/-- its first turn -/
theorem min_first (W : Walks prog w A.in1 I fp wr n P Sx) (bt : Nat → Nat → Bool) (S : Addr) (G : Heap → Prop) (gk : ∀ h1 h2 : Heap, G h1 → (∀ b o, b ∉ wr → b ≠ S → h1.get? b = some o → h2.get? b = some o) → G h2)
    (gc : ∀ i j vi vj (s1 : Shared) (Q1 : Value → Shared → Prop) (E1 : Value → Shared → Prop), G s1.heap → P i vi → P j vj → Q1 (.bool (bt i j)) s1 → wpAny (model prog w) A.in1 (richCompare .Lt vi vj) Q1 E1 s1) (hSf : S ∉ fp)
    (hn : 0 < n) {s : Shared} {c : Nat} (g : G s.heap) (st : Sx 0 s.heap) (sS : s.heap.get? S = some { cls := .type "list", dict := none, data := .seq #[] c, slots := #[] })
    (fin : ∀ v h1 t1, P (argBest bt (n - 1)) v → (∀ b o, b ∉ wr → b ≠ S → s.heap.get? b = some o → h1.get? b = some o) → R (.ok (.ret v)) { s with heap := h1, toks := t1 }) :
    codeAny (model prog w) A (.builtin "min.loop" ⟨[.ref I, .none, .ref S], []⟩) R s := by
  have nw : S ∉ wr := fun z => hSf (W.sub _ z)
  have nm : (toString "min" ++ toString ".loop" : String) = "min.loop" := by decide
  refine codeAny_builtin F.entry_min_loop ?_
  rw [Around.under_plainId F.plain_min_loop _]
  refine wpAny_bind (wpAny_seqItems sS rfl ?_)
  refine wpAny_bind (wpAny_tryCatch (W.item 0 s _ _ hn st fun v h1 t1 pv st1 k1 => ?_))
  have sS1 := k1 S _ nw sS
  change wpAny (model prog w) A.in1 (updateSeq S (fun _ => #[v, v]) >>= _) _ _ _
  refine wpAny_bind ?_
  refine wpAny_updateSeq sS1 rfl ?_
  rw [nm]
  have up : ∀ b o, b ≠ S → h1.get? b = some o → (h1.update S (Obj.mapSeq fun _ => #[v, v])).get? b = some o := fun b o n2 e => (Heap.get?_update_other _ _ (Ne.symm n2)).trans e
  have g1 : G h1 := gk _ _ g fun b o n1 _ e => k1 b o n1 e
  refine wpAny_pure ⟨plainId_quiet F.plain_min_loop _, min_turns W bt S G gk gc hSf _ 0 _ v _ rfl hn (gk _ _ g1 fun b o _ n2 e => up b o n2 e) (W.frame _ _ _ st1 fun b bf o e => up b o (fun z => hSf (z ▸ bf)) e) pv (Heap.get?_update_self _ sS1 rfl) fun v2 h2 t2 p2 k2 => ?_⟩
  exact fin v2 h2 t2 p2 fun b o n1 n2 e => k2 b o n1 n2 (up b o n2 (k1 b o n1 e))
end
section
variable {prog : Program} {w : World} {A : Around} {E : Value → Shared → Prop} {s : Shared}
theorem min_walk {x : Value} {Q : Value → Shared → Prop}
    (h : wpAny (model prog w) A.in1 (pyIter x) (fun it s2 => ∃ I fp wr n P Sx bt, ∃ G : Heap → Prop, it = .ref I ∧ Walks prog w A.in1 I fp wr n P Sx ∧ Sx 0 s2.heap ∧ (∀ b ∈ fp, b < s2.heap.objs.size) ∧ 0 < n ∧
      (∀ h1 h2 : Heap, G h1 → (∀ b o, b ∉ wr → b < s2.heap.objs.size → h1.get? b = some o → h2.get? b = some o) → G h2) ∧ G s2.heap ∧
      (∀ i j vi vj (s1 : Shared) (Q1 : Value → Shared → Prop) (E1 : Value → Shared → Prop), G s1.heap → P i vi → P j vj → Q1 (.bool (bt i j)) s1 → wpAny (model prog w) A.in1 (richCompare .Lt vi vj) Q1 E1 s1) ∧
      ∀ v h1 t1, P (argBest bt (n - 1)) v → (∀ b o, b ∉ wr → s2.heap.get? b = some o → h1.get? b = some o) → Q v { s2 with heap := h1, toks := t1 }) E s) :
    wpAny (model prog w) A (call (.builtin "min") [x]) Q E s := by
  have nm : (toString "min" ++ toString ".loop" : String) = "min.loop" := by decide
  refine call_function_tree F.kind_min F.plain_min F.entry_min (F.args_min1 _) ?_
  change wpAny _ A.in1 (Builtin.Builtins.bindParams "min" ["key", "default"] 0 ⟨[], []⟩ >>= _) _ _ s
  refine wpAny_bind (wpAny_of_eq (show Builtin.Builtins.bindParams "min" ["key", "default"] 0 ⟨[], []⟩ = pure [none, none] from rfl) ?_)
  refine wpAny_bind (wpAny_pure ?_)
  refine wpAny_bind (wpAny_mono h (fun it s2 q => ?_) fun _ _ e => e)
  obtain ⟨I, fp, wr, n, P, Sx, bt, G, rfl, W, st, lf, hn, gk, g, gc, fin⟩ := q
  refine wpAny_bind (wpAny_newObj_type ?_)
  have sf : s2.heap.objs.size ∉ fp := fun z => Nat.lt_irrefl _ (lf _ z)
  rw [nm]
  refine wpAny_pure ⟨plainId_quiet F.plain_min_loop _, min_first W bt s2.heap.objs.size G (fun h1 h2 g1 k => gk h1 h2 g1 fun b o n1 n2 e => k b o n1 (Nat.ne_of_lt n2) e) gc sf hn (gk _ _ g fun b o _ _ e => Heap.get?_push_of_some _ e)
    (W.frame _ _ _ st fun b _ o e => Heap.get?_push_of_some _ e) (Heap.get?_push_size _ rfl) fun v h1 t1 pv k => ?_⟩
  exact fin v h1 t1 pv fun b o n1 e => k b o n1 (Nat.ne_of_lt (Heap.lt_size e)) (Heap.get?_push_of_some _ e)
end
section
variable {prog : Program} {w : World} {A : Around} {E : Value → Shared → Prop} {s : Shared} {l : Addr} {its : Array Value}
theorem min_of_list {Q : Value → Shared → Prop} (hh : A.handled = none) (hl : s.heap.IsList l its) (hn : 0 < its.size) (bt : Nat → Nat → Bool)
    (gc : ∀ i j vi vj (s1 : Shared) (Q1 : Value → Shared → Prop) (E1 : Value → Shared → Prop), (∀ b o, s.heap.get? b = some o → s1.heap.get? b = some o) → its[i]? = some vi → its[j]? = some vj → Q1 (.bool (bt i j)) s1 →
      wpAny (model prog w) A.in1 (richCompare .Lt vi vj) Q1 E1 s1)
    (h : ∀ v h1 t1, its[argBest bt (its.size - 1)]? = some v → (∀ b o, s.heap.get? b = some o → h1.get? b = some o) → Q v { s with heap := h1, toks := t1 }) :
    wpAny (model prog w) A (call (.builtin "min") [.ref l]) Q E s := by
  have ll : l < s.heap.objs.size := by obtain ⟨_, e, _⟩ := hl; exact Heap.lt_size e
  have z1 : (s.heap.push { cls := .type "list_iterator", data := .fields #[.ref l, .int 0 0] }).objs.size = s.heap.objs.size + 1 := Heap.size_push ..
  have nin : ∀ b o, s.heap.get? b = some o → b ∉ [s.heap.objs.size] := fun b o e z => Nat.lt_irrefl _ ((List.mem_singleton.mp z) ▸ Heap.lt_size e)
  have lts : ∀ b o, s.heap.get? b = some o → b < (s.heap.push { cls := .type "list_iterator", data := .fields #[.ref l, .int 0 0] }).objs.size := fun b o e => by rw [z1]; exact Nat.lt_succ_of_lt (Heap.lt_size e)
  refine min_walk (wpAny_pyIter_list hl ⟨s.heap.objs.size, [s.heap.objs.size, l], [s.heap.objs.size], its.size, fun i v => its[i]? = some v, _, bt, fun h1 => ∀ b o, s.heap.get? b = some o → h1.get? b = some o, rfl,
    Walks.list (A := A.in1) hh _ l (Nat.ne_of_lt ll) its, ⟨⟨_, Heap.get?_push_size _ rfl, rfl, rfl⟩, hl.push _⟩, fun b hb => ?_, hn, fun h1 h2 g k b o e => k b o (nin b o e) (lts b o e) (g b o e), fun b o e => Heap.get?_push_of_some _ e, gc, fun v h1 t1 pv k => ?_⟩)
  · change b < (s.heap.push { cls := .type "list_iterator", data := .fields #[.ref l, .int 0 0] }).objs.size
    rw [z1]
    rcases List.mem_cons.mp hb with rfl | hb
    · exact Nat.lt_succ_self _
    · rw [List.mem_singleton] at hb
      rw [hb]
      exact Nat.lt_succ_of_lt ll
  · exact h v h1 t1 pv fun b o e => k b o (nin b o e) (Heap.get?_push_of_some _ e)
end
end Db
end
section
set_option Elab.async false
set_option linter.all false
set_option maxRecDepth 100000
namespace Db
open PySem PySem.Spec PyProof.Rows L2
open Km444 (Box)

/-! ### tuples of three ints -/
def tl3 (t : T3) : List Int := [t.1, t.2.1, t.2.2]
theorem lex3_iff (t u : T3) : HT.lexLt (tl3 t) (tl3 u) = true ↔ lex3 t u := by
  unfold tl3 lex3
  simp only [HT.lexLt_cons, HT.lexLt_nil_nil]
  by_cases h1 : t.1 = u.1
  · rw [if_pos h1]
    by_cases h2 : t.2.1 = u.2.1
    · rw [if_pos h2]
      by_cases h3 : t.2.2 = u.2.2
      · rw [if_pos h3]; simp; omega
      · rw [if_neg h3, decide_eq_true_eq]; omega
    · rw [if_neg h2, decide_eq_true_eq]; omega
  · rw [if_neg h1, decide_eq_true_eq]; omega
theorem lex3_irr (t : T3) : ¬ lex3 t t := by unfold lex3; omega
theorem lex3_tr {t u v : T3} (a : lex3 t u) (b : lex3 u v) : lex3 t v := by unfold lex3 at *; omega
theorem lex3_tot {t u : T3} (h : ¬ lex3 u t) : t = u ∨ lex3 t u := by
  obtain ⟨a, b, c⟩ := t
  obtain ⟨a', b', c'⟩ := u
  unfold lex3 at *
  simp only [Prod.mk.injEq] at *
  omega
theorem argBest_min (f : Nat → T3) (bt : Nat → Nat → Bool) (hb : ∀ i j, bt i j = true ↔ lex3 (f i) (f j)) : ∀ k, argBest bt k ≤ k ∧ ∀ i, i ≤ k → ¬ lex3 (f i) (f (argBest bt k))
  | 0 => ⟨Nat.le_refl _, fun i hi => by
    have : i = 0 := by omega
    subst this
    exact lex3_irr _⟩
  | k + 1 => by
    obtain ⟨h1, h2⟩ := argBest_min f bt hb k
    rw [argBest]
    by_cases q : bt (k + 1) (argBest bt k) = true
    · rw [if_pos q]
      refine ⟨Nat.le_refl _, fun i hi z => ?_⟩
      rcases Nat.lt_or_ge i (k + 1) with l | l
      · exact h2 i (by omega) (lex3_tr z ((hb _ _).mp q))
      · have : i = k + 1 := by omega
        subst this
        exact lex3_irr _ z
    · rw [if_neg q]
      refine ⟨by omega, fun i hi z => ?_⟩
      rcases Nat.lt_or_ge i (k + 1) with l | l
      · exact h2 i (by omega) z
      · have : i = k + 1 := by omega
        subst this
        exact q ((hb _ _).mpr z)
def TupAt (H : Hp) (a : Addr) (t : T3) : Prop := H a = some (.tup ((tl3 t).map V.int))
abbrev Tps (H : Hp) : List Addr → List T3 → Prop := Paired (TupAt H)
theorem Tps.same {H H' : Hp} (s : Same H H') : ∀ {as : List Addr} {ts : List T3}, Tps H as ts → Tps H' as ts
  | _, _, .nil => .nil
  | _, _, .cons r t => .cons (s _ _ r) (Tps.same s t)
theorem TupAt.upd {H : Hp} {a D : Addr} {t : T3} {o u : HO} (h : TupAt H a t) (hD : H D = some u) (ne : ∀ xs, u ≠ .tup xs) : TupAt (upd H D o) a t := by
  unfold TupAt
  rw [upd_ne (ne_of h hD (fun z => ne _ z.symm))]
  exact h
theorem Tps.upd {H : Hp} {D : Addr} {o u : HO} (hD : H D = some u) (ne : ∀ xs, u ≠ .tup xs) : ∀ {as : List Addr} {ts : List T3}, Tps H as ts → Tps (L2.upd H D o) as ts
  | _, _, .nil => .nil
  | _, _, .cons r t => .cons (TupAt.upd r hD ne) (Tps.upd hD ne t)
theorem Tps.append {H : Hp} : ∀ {as as' : List Addr} {ts ts' : List T3}, Tps H as ts → Tps H as' ts' → Tps H (as ++ as') (ts ++ ts')
  | _, _, _, _, .nil, s => s
  | _, _, _, _, .cons r t, s => .cons r (Tps.append t s)
theorem Tps.len {H : Hp} {as : List Addr} {ts : List T3} (h : Tps H as ts) : as.length = ts.length := Paired.length h
theorem Tps.get {H : Hp} {as : List Addr} {ts : List T3} (h : Tps H as ts) {i : Nat} {a : Addr} (e : as[i]? = some a) : ∃ t, ts[i]? = some t ∧ TupAt H a t := paired_get h e

section
variable {X : Cx}
/-- min(ts) of a list of such tuples -/
theorem cr_minT (hc : X.calm = true) (hu : X.A.units + 1 < cLine) : CallR X (.builtin "min") (fun vs H Q => ∃ a as ts, vs = [.ref a] ∧ H a = some (.lst (as.map V.ref)) ∧ Tps H as ts ∧ ts ≠ [] ∧
    ∀ p t, t ∈ ts → TupAt H p t → (∀ u ∈ ts, t = u ∨ lex3 t u) → Q (.ref p) H) := by
  intro pins s σ H vs us Q I r ⟨a, as, ts, e, ha, hT, hne, q⟩
  subst e
  obtain ⟨its, rv, hl, _⟩ := I.list (SqL.of ha)
  rw [Vals.ref1 r]
  have ei := refs_at rv
  subst ei
  have hlen := hT.len
  have hpos : 0 < ts.length := List.length_pos_iff.mpr hne
  have at_ : ∀ (i : Nat) (v : Value), (as.map Value.ref).toArray[i]? = some v → ∃ c t, v = .ref c ∧ as[i]? = some c ∧ ts[i]? = some t ∧ TupAt H c t := fun i v h => by
    rw [List.getElem?_toArray, List.getElem?_map] at h
    cases e : as[i]? with
    | none => rw [e] at h; cases h
    | some c =>
      rw [e] at h
      obtain ⟨t, h1, h2⟩ := hT.get e
      exact ⟨c, t, (Option.some.inj h).symm, rfl, h1, h2⟩
  let f : Nat → T3 := fun i => ts.getD i (0, 0, 0)
  have fe : ∀ i t, ts[i]? = some t → f i = t := fun i t h => by simp [f, List.getD_eq_getElem?_getD, h]
  refine min_of_list (I.ok.hd hc) hl.isList (by simp only [List.size_toArray, List.length_map]; omega) (fun i j => HT.lexLt (tl3 (f i)) (tl3 (f j))) (fun i j vi vj s1 Q1 E1 k hi hj hq => ?_) (fun v h1 t1 hv k => ?_)
  · obtain ⟨c, t, rfl, _, ht, hc1⟩ := at_ i vi hi
    obtain ⟨c', t', rfl, _, ht', hc1'⟩ := at_ j vj hj
    obtain ⟨y, ry, py, _⟩ := I.tuple (SqT.of hc1)
    obtain ⟨y', ry', py', _⟩ := I.tuple (SqT.of hc1')
    have p1 : IsTup s1.heap c y.toArray := let ⟨o, ho, x⟩ := py; ⟨o, k _ _ ho, x⟩
    have p2 : IsTup s1.heap c' y'.toArray := let ⟨o, ho, x⟩ := py'; ⟨o, k _ _ ho, x⟩
    rw [fe i t ht, fe j t' ht'] at hq
    exact HT.lt_tupInts (A := X.A.in1) p1 p2 (intsAre_of ry) (intsAre_of ry') hu hq
  · obtain ⟨c, t, rfl, _, ht, hc1⟩ := at_ _ v hv
    refine ⟨.ref c, H, I.kept k, rfl, q c t (List.mem_of_getElem? ht) hc1 fun u hu' => ?_⟩
    obtain ⟨i, hi, rfl⟩ := List.getElem_of_mem hu'
    have m := (argBest_min f _ (fun i j => lex3_iff (f i) (f j)) ((as.map Value.ref).toArray.size - 1)).2 i (by simp only [List.size_toArray, List.length_map]; omega)
    rw [fe _ t ht, fe i _ (List.getElem?_eq_getElem hi)] at m
    exact lex3_tot m
/-- list(d.values()) -/
def tLV (te : TE) : TE := fun σ H Q => te σ H fun x H1 => ∃ d kvs, x = .ref d ∧ H1 d = some (.dK kvs) ∧ ∀ l, H1 l = none → Q (.ref l) (upd H1 l (.lst (kvs.map (·.2))))
theorem kv_vals {kvs : List (Key × V)} {vs : List (Key × Value)} (h : KV kvs vs) : Vals (kvs.map (·.2)) (vs.map (·.2)) := by
  unfold KV at h
  induction h with
  | nil => exact .nil
  | cons r _ ih => exact .cons r.2 ih
theorem bt_list : bootBuiltins "list" = some (.type "list") := by decide +kernel
theorem bt_dict : bootBuiltins "dict" = some (.type "dict") := by decide +kernel
theorem pe_listV {e : Expr} {te : TE} {p pos apos cpos : Pos} (hc : X.calm = true) (hg : Gl X "list") (hm : X.mg "list" = none) (he : PE X e te) (hbase : attributeBase e "values" X.env (eval e X.env) = eval e X.env := by rfl) (hline : (apos.endLine == cpos.line) = true := by rfl)
    (hs : starEach [.Call (.Attribute e "values" apos) [] [] cpos] X.env = [(false, eval (.Call (.Attribute e "values" apos) [] [] cpos) X.env)] := by rfl) :
    PE X (.Call (.Name "list" p) [.Call (.Attribute e "values" apos) [] [] cpos] [] pos) (tLV te) := by
  intro pins s σ H Q I h
  refine wpAny_Call_Name_kw (ld_blt I hg hm bt_list ?_ (by decide) (by decide))
  refine PyProof.Rows.callWith_type1 ?_ hs rfl
  rw [hs]
  refine Calls.spliced_cons ?_
  refine wpAny_Call_method (T := "dict") (id := "dict.values") hbase rfl hline F.plainAttrs_dict F.slot_dict_values F.type_dict_values (thn (he pins s σ H _ I h) fun u s1 ⟨x, H1, I1, rx, d, kvs, ex, hd, q⟩ => ?_)
  subst ex
  cases rx
  obtain ⟨hz, hsy, vs, kv, hD⟩ := dk_of I1.hok hd
  obtain ⟨ep, hat⟩ := hD.dictAt
  have hl : kvs.length = vs.length := Paired.length kv
  refine ⟨hD.typeIs, hD.mapOf.noDict, ?_⟩
  change wpAny _ _ (callWith cpos (.builtin "dict.values") [.ref d] [] []) _ X.xe s1
  refine method_meetsIn F.slot_dict_values F.entry_dict_values rfl (PySem.evalArgs_none ⟨rfl, hD.typeIs, F.args_dict_values_1 _, _, meets_dict_values (mixKind X.prog X.w) d hsy, ⟨vs, hD⟩, ?_⟩)
  refine Calls.spliced_nil ?_
  have k1 : ∀ b o, s1.heap.get? b = some o → (s1.heap.push { cls := .type "dict_values", data := .fields #[.ref d] }).get? b = some o := fun b o e => Heap.get?_push_of_some _ e
  have I2 : Inv X pins σ H1 { s1 with heap := s1.heap.push { cls := .type "dict_values", data := .fields #[.ref d] } } := I1.kept (t' := s1.toks) k1
  refine PySem.W.kdl_call (PySem.W.kdl_values (knd := mixKind X.prog X.w) (kvs := vs) (ep := ep) (r := s1.heap.objs.size) (d := d)) (I.ok.hd hc) ⟨⟨_, Heap.get?_push_size _ rfl, rfl, rfl⟩, hat.push _⟩ (by rw [← hl]; exact hz) fun h' tk acc c' k2 hD' hacc => ?_
  have ev := PySem.W.kdl_vals_eq (kvs := vs) acc.toList (by rw [Array.length_toList]; exact hacc.1) fun j v e => hacc.2 j v (by rw [← Array.getElem?_toList]; exact e)
  have ea : acc = (vs.map (·.2)).toArray := by rw [← ev]
  subst ea
  refine ⟨.ref _, _, I2.laid (t' := tk) (o := .lst (kvs.map (·.2))) k2 (Nat.le_refl _) ⟨by rw [List.length_map]; exact hz, _, _, kv_vals kv, hD'⟩, rfl, q _ (I2.hok.fresh (Nat.le_refl _))⟩
end
end Db
end
section
set_option Elab.async false
set_option linter.all false
set_option maxRecDepth 100000
namespace Db
open PySem PySem.Spec PyProof.Rows L2
open Km444 (Box)

/-! ### the dict of marks -/
def KvR (C : Addr) (H : Hp) (kv : Key × V) (p : Int × Box) : Prop := kv.1 = Sum.inl p.1 ∧ ∃ a, kv.2 = .ref a ∧ BoxAt C H a p.2
abbrev Kvs (C : Addr) (H : Hp) : List (Key × V) → Kp → Prop := Paired (KvR C H)
theorem Kvs.len {C : Addr} {H : Hp} {kvs : List (Key × V)} {k : Kp} (h : Kvs C H kvs k) : kvs.length = k.length := Paired.length h
theorem Kvs.imp {C : Addr} {H H' : Hp} (f : ∀ a b, BoxAt C H a b → BoxAt C H' a b) : ∀ {kvs : List (Key × V)} {k : Kp}, Kvs C H kvs k → Kvs C H' kvs k
  | _, _, .nil => .nil
  | _, _, .cons ⟨e, a, ea, hb⟩ t => .cons ⟨e, a, ea, f _ _ hb⟩ (Kvs.imp f t)
theorem Kvs.same {C : Addr} {H H' : Hp} (s : Same H H') {kvs : List (Key × V)} {k : Kp} (h : Kvs C H kvs k) : Kvs C H' kvs k := h.imp fun _ _ hb => hb.same s
theorem Kvs.append {C : Addr} {H : Hp} : ∀ {a a' : List (Key × V)} {b b' : Kp}, Kvs C H a b → Kvs C H a' b' → Kvs C H (a ++ a') (b ++ b')
  | _, _, _, _, .nil, s => s
  | _, _, _, _, .cons r t, s => .cons r (Kvs.append t s)
theorem Kvs.get {C : Addr} {H : Hp} {kvs : List (Key × V)} {k : Kp} (h : Kvs C H kvs k) {i : Nat} {kv : Key × V} (e : kvs[i]? = some kv) : ∃ p, k[i]? = some p ∧ KvR C H kv p := paired_get h e
theorem Kvs.vals {C : Addr} {H : Hp} : ∀ {kvs : List (Key × V)} {k : Kp}, Kvs C H kvs k → ∃ as, kvs.map (·.2) = as.map V.ref ∧ Bxs C H as (k.map (·.2))
  | _, _, .nil => ⟨[], rfl, .nil⟩
  | _, _, .cons (a := kv) ⟨e, a, ea, hb⟩ t => by
    obtain ⟨as, h1, h2⟩ := Kvs.vals t
    refine ⟨a :: as, ?_, .cons hb h2⟩
    rw [List.map_cons, List.map_cons, h1, ea]
/-- what a mark tells -/
theorem Kvs.look {C : Addr} {H : Hp} : ∀ {kvs : List (Key × V)} {k : Kp}, Kvs C H kvs k → ∀ (m : Int), (valV kvs (Sum.inl m) = none ∧ ∀ p ∈ k, p.1 ≠ m) ∨ ∃ a b, valV kvs (Sum.inl m) = some (.ref a) ∧ BoxAt C H a b ∧ (m, b) ∈ k
  | _, _, .nil, m => .inl ⟨rfl, fun _ h => absurd h List.not_mem_nil⟩
  | _, _, .cons (a := kv) (b := p) ⟨e, a, ea, hb⟩ t, m => by
    by_cases h : p.1 = m
    · right
      refine ⟨a, p.2, ?_, hb, ?_⟩
      · rw [valV_pos (by rw [e, h]), ea]
      · rw [← h]; exact List.mem_cons_self
    · have hk : ¬ kv.1 = Sum.inl m := fun z => h (by rw [e] at z; exact Sum.inl.inj z)
      rcases Kvs.look t m with ⟨h1, h2⟩ | ⟨a', b', h1, h2, h3⟩
      · left
        refine ⟨by rw [valV_neg hk]; exact h1, fun q hq => ?_⟩
        rcases List.mem_cons.mp hq with rfl | hq
        · exact h
        · exact h2 q hq
      · right
        exact ⟨a', b', by rw [valV_neg hk]; exact h1, h2, List.mem_cons_of_mem _ h3⟩
theorem BoxAt.upd {C : Addr} {H : Hp} {a D : Addr} {b : Box} {o u : HO} (h : BoxAt C H a b) (hD : H D = some u) (ne : ∀ C dx fs, u ≠ .ins C dx fs) : BoxAt C (L2.upd H D o) a b := let ⟨dx, e⟩ := h; ⟨dx, by rw [upd_ne (ne_of e hD (fun z => ne _ _ _ z.symm))]; exact e⟩

abbrev sPairsWith : Stmt := top 20
abbrev sFour : Stmt := top 21
def spPairsWith (C : Addr) : Sp := fun vs H Q _ => ∃ a d b m kvs k, vs = [.ref a, .int m, .ref d] ∧ BoxAt C H a b ∧ H d = some (.dK kvs) ∧ Kvs C H kvs k ∧ Bd 100000000 b ∧ (∀ p ∈ k, Bd 100000000 p.2) ∧ k.length ≤ 100000 ∧
  ∀ H' p as, Same H H' → H' p = some (.lst (as.map V.ref)) → Tps H' as (withB k b m) → Q (.ref p) H'

section
variable {P : Program} {w : World} {K : PySem.W.Frag} {mg : Str → Option Value} {base : Heap} {C : Addr}
theorem scPairsWith : FnScope ["box", "mark", "kept", "place", "other"] ["box", "mark", "kept"] (defScope sPairsWith) := ⟨rfl, rfl, rfl, by decide +kernel, rfl, by decide +kernel, by decide +kernel⟩
theorem ok_pairsWith {f : Addr} {fd : FuncData} (F : Fun K "pairs_with" "pairs_with" sPairsWith f fd) (Dg : Df P w K mg base 4 "growth" ["one", "other"] (spGrowth C)) : FnOk P w K mg base CX0 5 f fd ["box", "mark", "kept"] (spPairsWith C) := by
  refine F.ok scPairsWith (fun vs H Q E h => ?_) (fun cdv A outer s H vs Q E hr h => ?_)
  · obtain ⟨a, d, b, m, kvs, k, rfl, _⟩ := h
    rfl
  · obtain ⟨a, d, b, m, kvs, kp, rfl, hb, hd, hk, bb, bk, kl, k⟩ := h
    refine ⟨_, pss_one (ps_ret (pe_lock (pe_lc (own := [("place", 3), ("other", 4)]) (g := gTup K 2 (gCons (gName 3) (gCons (gName 4) gNil))) rfl scPairsWith.nd (pi_items (pv 2)) (blkOk_by (by show blkC ["box", "mark", "kept", "place", "other"] (defScope sPairsWith) _ _ = true; decide +kernel))
      (fun s H C cl fp => pg_tup rfl (pgs_cons (pg_name (i := 3) scPairsWith.nd rfl (Or.inl rfl)) (pgs_cons (pg_name (i := 4) scPairsWith.nd rfl (Or.inl rfl)) pgs_nil))) (fun s H C' cl fp => pts_nil)
      (fun s H C' cl fp => pe_tup (pa_cons (pe_fn Dg hr (pa_cons (pv 4) (pa_cons (pv 0) pa_nil))) (pa_cons (pv 3) (pa_cons (pv 1) pa_nil))))))), ?_⟩
    refine ⟨d, _, hd, trivial, fun od => ?_⟩
    have hdU : (upd H d (.frz od (.dK kvs))) d = some (.frz od (.dK kvs)) := upd_same
    have tr : ∀ {a b}, BoxAt C H a b → BoxAt C (upd H d (.frz od (.dK kvs))) a b := fun h => h.upd hd (fun _ _ _ z => by cases z)
    have hbU := tr hb
    have hkU : Kvs C (upd H d (.frz od (.dK kvs))) kvs kp := hk.imp fun _ _ h => tr h
    have back : ∀ {H'}, Same (upd H d (.frz od (.dK kvs))) H' → Same H (upd H' d (.dK kvs)) := fun {H'} s1 c o e => by
      by_cases hc : c = d
      · subst hc; rw [hd] at e; cases e; exact upd_same
      · rw [upd_ne hc]; exact s1 _ _ (by rw [upd_ne hc]; exact e)
    generalize hHU : upd H d (.frz od (.dK kvs)) = HU at *
    refine ⟨_, rfl, d, od, kvs, rfl, hdU, fun D hD => ?_⟩
    refine lc_n kvs.length (fun i H' => Same HU H' ∧ ∃ as, H' D = some (.lst (as.map V.ref)) ∧ Tps H' as (withB (kp.take i) b m)) ⟨same_new hD, [], upd_same, .nil⟩ (fun i H' hi ⟨s1, _⟩ => ⟨s1 _ _ hdU, hi⟩) (fun H' ⟨s1, _⟩ => ⟨s1 _ _ hdU, Nat.le_refl _⟩) ?_ ?_
    · rintro i x H1 H2 hi ⟨s1, as, hD1, hT⟩ ⟨Tt, key, v, hkv, rfl, hTn, rfl⟩
      obtain ⟨p, hp, he, c, hv, hcp⟩ := hkU.get hkv
      simp only at he hv
      subst he hv
      have s2 : Same H1 (upd H1 Tt (.tup [kV (Sum.inl p.1), .ref c])) := same_new hTn
      refine ⟨Tt, _, rfl, SqT.of upd_same, rfl, _, _, rfl, _, _, rfl, rfl, rfl, ?_⟩
      have s12 := s1.trans s2
      refine ⟨_, rfl, _, rfl, c, a, p.2, b, rfl, hcp.same s12, hbU.same s12, bk p (List.mem_of_getElem? hp), bb, fun H3 s3 => ?_⟩
      refine ⟨_, rfl, _, rfl, (by show 3 ≤ sizeLine; decide), fun q hq => ?_⟩
      have s4 : Same H3 (upd H3 q (.tup [.int (grow p.2 b), .int p.1, .int m])) := same_new hq
      have s14 := s12.trans (s3.trans s4)
      have s24 := s2.trans (s3.trans s4)
      have hD4 := s24 _ _ hD1
      have hl := hT.len
      refine ⟨_, hD4, ?_, Same.upd_new s14 hD, as ++ [q], ?_, ?_⟩
      · rw [List.length_map, hl]
        unfold withB
        rw [List.length_map, List.length_take, sizeLine_eq]
        omega
      · rw [upd_same, List.map_append]; rfl
      · have e : withB (kp.take (i + 1)) b m = withB (kp.take i) b m ++ [(grow p.2 b, p.1, m)] := by
          unfold withB
          rw [take_snoc hp, List.map_append]; rfl
        rw [e]
        have nt : ∀ xs, HO.lst (as.map V.ref) ≠ .tup xs := fun xs z => by cases z
        exact (Tps.upd hD4 nt (Tps.same s24 hT)).append (.cons (TupAt.upd (by unfold TupAt; exact upd_same) hD4 nt) .nil)
    · rintro H1 ⟨s1, as, hD1, hT⟩
      rw [hk.len, List.take_length] at hT
      have nd : D ≠ d := fun z => by subst z; rw [hdU] at hD; cases hD
      refine ⟨s1 _ _ hdU, k _ D as (back s1) (by rw [upd_ne nd]; exact hD1) (Tps.upd (s1 _ _ hdU) (fun xs z => by cases z) hT)⟩
end
end Db
end
section
set_option Elab.async false
set_option linter.all false
set_option maxRecDepth 100000
namespace Db
open PySem PySem.Spec PyProof.Rows L2
open Km444 (Box)

def spFour (C : Addr) : Sp := fun vs H Q _ => ∃ l bs, vs = [.ref l] ∧ LstAt C H l bs ∧ bs.length ≤ 2048 ∧ (∀ b ∈ bs, Bd 100000000 b) ∧ NewLstF C H (Km444.squeezed bs) Q

theorem Kvs.isSome {C : Addr} {H : Hp} {kvs : List (Key × V)} {k : Kp} (h : Kvs C H kvs k) (m : Int) : (valV kvs (Sum.inl m)).isSome = k.any fun a => decide (a.1 = m) := by
  rcases h.look m with ⟨h1, h2⟩ | ⟨a, b, h1, _, h3⟩
  · rw [h1]
    symm
    rw [Option.isSome_none, List.any_eq_false]
    intro p hp
    simpa using h2 p hp
  · rw [h1]
    symm
    rw [Option.isSome_some, List.any_eq_true]
    exact ⟨_, h3, by simp⟩
/-- keys that differ -/
theorem merge_new : ∀ (more acc : List (Key × V)), (more.map (·.1)).Nodup → (∀ kv ∈ more, valV acc kv.1 = none) → mergeK acc more = acc ++ more
  | [], acc, _, _ => by simp [mergeK]
  | kv :: more, acc, hn, ha => by
    have e : mergeK acc (kv :: more) = mergeK (putK acc kv.1 kv.2) more := rfl
    rw [List.map_cons, List.nodup_cons] at hn
    rw [e, putK_new kv.2 (ha kv List.mem_cons_self), merge_new more _ hn.2 fun x hx => ?_]
    · rw [List.append_assoc]; rfl
    · rw [valV_snoc _ _ _ _ (ha kv List.mem_cons_self), if_neg ?_]
      · exact ha x (List.mem_cons_of_mem _ hx)
      · intro z
        exact hn.1 (by rw [← z]; exact List.mem_map.mpr ⟨x, hx, rfl⟩)
theorem Kvs.nodup {C : Addr} {H : Hp} : ∀ {kvs : List (Key × V)} {k : Kp}, Kvs C H kvs k → k.Pairwise (fun a b => a.1 < b.1) → (kvs.map (·.1)).Nodup
  | _, _, .nil, _ => List.nodup_nil
  | _, _, .cons (a := kv) (b := p) ⟨e, _⟩ t, h => by
    obtain ⟨h1, h2⟩ := List.pairwise_cons.mp h
    rw [List.map_cons, List.nodup_cons]
    refine ⟨fun z => ?_, Kvs.nodup t h2⟩
    obtain ⟨kv', hm, e'⟩ := List.mem_map.mp z
    obtain ⟨i, hi, rfl⟩ := List.getElem_of_mem hm
    obtain ⟨p', hp', e2, _⟩ := Kvs.get t (List.getElem?_eq_getElem hi)
    have := h1 p' (List.mem_of_getElem? hp')
    rw [e2, e] at e'
    have := Sum.inl.inj e'
    omega
abbrev fourN : List Str := ["boxes", "kept", "pairs", "mark", "box", "least", "whole", "place", "pair"]
/-- a pair of the dict, as a tuple -/
abbrev Prt (H : Hp) : List Addr → List (Key × V) → Prop := Paired fun p kv => H p = some (.tup [kV kv.1, kv.2])
theorem Prt.same {H H' : Hp} (s : Same H H') : ∀ {ps : List Addr} {kvs : List (Key × V)}, Prt H ps kvs → Prt H' ps kvs
  | _, _, .nil => .nil
  | _, _, .cons r t => .cons (s _ _ r) (Prt.same s t)
theorem Prt.upd {H : Hp} {D : Addr} {o u : HO} (hD : H D = some u) (ne : ∀ xs, u ≠ .tup xs) : ∀ {ps : List Addr} {kvs : List (Key × V)}, Prt H ps kvs → Prt (L2.upd H D o) ps kvs
  | _, _, .nil => .nil
  | _, _, .cons r t => .cons (by rw [upd_ne (ne_of r hD (fun z => ne _ z.symm))]; exact r) (Prt.upd hD ne t)
theorem Prt.append {H : Hp} : ∀ {a a' : List Addr} {b b' : List (Key × V)}, Prt H a b → Prt H a' b' → Prt H (a ++ a') (b ++ b')
  | _, _, _, _, .nil, s => s
  | _, _, _, _, .cons r t, s => .cons r (Prt.append t s)
theorem Prt.sq {K : PySem.W.Frag} {H : Hp} : ∀ {ps : List Addr} {kvs : List (Key × V)}, Prt H ps kvs → Paired (fun p kv => SqT K H p [kV kv.1, kv.2]) ps kvs
  | _, _, .nil => .nil
  | _, _, .cons r t => .cons (SqT.of r) (Prt.sq t)
/-- a lock taken off again -/
theorem unlock_same {H H' : Hp} {d : Addr} {od : Obj} {u : HO} (hd : H d = some u) (s : Same (L2.upd H d (.frz od u)) H') : Same H (L2.upd H' d u) := fun c o e => by
  by_cases hc : c = d
  · subst hc; rw [hd] at e; cases e; exact upd_same
  · rw [upd_ne hc]; exact s _ _ (by rw [upd_ne hc]; exact e)

/-- between two turns of the while -/
structure Mid (C : Addr) (H : Hp) (goal : List Box) (l : Addr) (m : Nat) (σ : L2.St) (H' : Hp) : Prop where
  ex : ∃ (d q : Addr) (mk : Int) (kvs : List (Key × V)) (kp : Kp) (ts : List T3) (aq : List Addr) (v4 v5 v6 v7 v8 : Option V), σ = [some (.ref l), some (.ref d), some (.ref q), some (.int mk), v4, v5, v6, v7, v8] ∧
    Same H H' ∧ H d = Option.none ∧ H q = Option.none ∧ H' d = some (.dK kvs) ∧ Kvs C H' kvs kp ∧ H' q = some (.lst (aq.map V.ref)) ∧ Tps H' aq ts ∧ Turn4 goal kp ts mk ∧ (∀ p ∈ kp, Bd 100000000 p.2) ∧ kp.length = m ∧ m ≤ 2048 ∧ ts.length + 2048 * m ≤ 8388608

section
variable {P : Program} {w : World} {K : PySem.W.Frag} {mg : Str → Option Value} {base : Heap} {C : Addr}
theorem scFour : FnScope fourN ["boxes"] (defScope sFour) := ⟨rfl, rfl, rfl, by decide +kernel, rfl, by decide +kernel, by decide +kernel⟩
set_option maxHeartbeats 1000000 in
theorem ok_four {f : Addr} {fd : FuncData} (F : Fun K "at_most_four" "at_most_four" sFour f fd) (B : Blt mg) (mm : ∃ t, mg "MOST_BOXES" = some (.int 4 t)) (Dt : Df P w K mg base 3 "tidy" ["boxes"] (spTidy C)) (Dp : Df P w K mg base 5 "pairs_with" ["box", "mark", "kept"] (spPairsWith C))
    (Dr : Df P w K mg base 3 "round_both" ["one", "other"] (spTwo C Box.join)) (Di : Df P w K mg base 1 "is_in" ["inner", "outer"] (spIsIn C)) : FnOk P w K mg base CX0 6 f fd ["boxes"] (spFour C) := by
  obtain ⟨tm, mm⟩ := mm
  refine F.ok scFour (fun vs H Q E h => ?_) (fun cdv A outer s H vs Q E hr h => ?_)
  · obtain ⟨l, bs, rfl, _⟩ := h
    rfl
  · obtain ⟨l, bs, rfl, hl, blen, bbd, k⟩ := h
    have hr1 : Room 1 _ := hr.mono (by decide)
    have hr3 : Room 3 _ := hr.mono (by decide)
    have hu := hu_of hr
    refine ⟨_, pss_cons (ps_set (i := 1) scFour.nd rfl (Or.inr rfl) pe_dnewK)
      (pss_cons (ps_set (i := 2) scFour.nd rfl (Or.inl rfl) (pe_lst pa_nil))
      (pss_cons (ps_for PassesOwn.never rfl (pi_enum rfl B.enum (pa_cons (pe_fn Dt hr3 (pa_cons (pv 0) pa_nil)) pa_nil)) (pg_tup rfl (pgs_cons (pg_name (i := 3) scFour.nd rfl (Or.inl rfl)) (pgs_cons (pg_name (i := 4) scFour.nd rfl (Or.inl rfl)) pgs_nil)))
        (pss_cons (ps_expr (pe_bm PySem.F.plainAttrs_list PySem.F.slot_list_extend PySem.F.type_list_extend mt_extend (pv 2) (pa_cons (pe_fn Dp hr (pa_cons (pv 4) (pa_cons (pv 3) (pa_cons (pv 1) pa_nil)))) pa_nil)))
        (pss_one (ps_dput hu (pv 1) (pv 3) (pv 4) rfl))))
      (pss_cons (ps_set (i := 3) scFour.nd rfl (Or.inl rfl) (pe_callB call_lenD rfl B.len PySem.boot_len (pa_cons (pv 1) pa_nil)))
      (pss_cons (ps_while PassesOwn.never (pt_cmpR op_gt (pe_callB call_lenD rfl B.len PySem.boot_len (pa_cons (pv 1) pa_nil)) (pe_glob (v := .int 4) rfl mm ⟨_, rfl⟩) (nomark _))
        (pss_cons (ps_set (i := 5) scFour.nd rfl (Or.inl rfl) (pe_callB (cr_minT rfl hu) rfl B.min boot_min (pa_cons (pv 2) pa_nil)))
        (pss_cons (ps_set (i := 6) scFour.nd rfl (Or.inr rfl) (pe_fn Dr hr3 (pa_cons (pe_dget hu (pv 1) (pe_ix ix_tup (pv 5) pe_int (fun _ _ => rfl)) (fun _ _ => rfl)) (pa_cons (pe_dget hu (pv 1) (pe_ix ix_tup (pv 5) pe_int (fun _ _ => rfl)) (fun _ _ => rfl)) pa_nil))))
        (pss_cons (ps_set (i := 1) scFour.nd rfl (Or.inr rfl) (pe_callTy (call_dictP rfl) rfl B.dict bt_dict (pa_cons (pe_lock (pe_lc (own := [("place", 7), ("box", 4)]) (g := gTup K 2 (gCons (gName 7) (gCons (gName 4) gNil))) rfl scFour.nd (pi_items (pv 1))
          (blkOk_by (by show blkC fourN (defScope sFour) _ _ = true; decide +kernel)) (fun s H C cl fp => pg_tup rfl (pgs_cons (pg_name (i := 7) scFour.nd rfl (Or.inl rfl)) (pgs_cons (pg_name (i := 4) scFour.nd rfl (Or.inl rfl)) pgs_nil)))
          (fun s H C' cl fp => pts_one (pt_not (pt_val (pe_fn Di hr1 (pa_cons (pv 4) (pa_cons (pv 6) pa_nil)))))) (fun s H C' cl fp => pe_tup (pa_cons (pv 7) (pa_cons (pv 4) pa_nil))))) pa_nil)))
        (pss_cons (ps_setLc (i := 2) (own := [("pair", 8)]) (tt := tAnd (tB (tDIn (tOp (rIxT K) (tVar 8) (tC (.int 1))) (tVar 1))) (tB (tDIn (tOp (rIxT K) (tVar 8) (tC (.int 2))) (tVar 1)))) rfl scFour.nd rfl rfl (sw_true rfl rfl rfl (by decide +kernel)) (pi_list (pv 2)) (blkOk_by (by show blkC fourN (defScope sFour) _ _ = true; decide +kernel))
          (fun s H C cl fp => pg_name (i := 8) scFour.nd rfl (Or.inl rfl))
          (fun s H C' cl fp => pts_one (pw_and (pt_cmp (pc_din hu (pe_ix ix_tup (pv 8) pe_int (fun _ _ => rfl)) (pv 1))) (pw_and1 (pt_cmp (pc_din hu (pe_ix ix_tup (pv 8) pe_int (fun _ _ => rfl)) (pv 1))))).pt) (fun s H C' cl fp => pv 8))
        (pss_cons (ps_expr (pe_bm PySem.F.plainAttrs_list PySem.F.slot_list_extend PySem.F.type_list_extend mt_extend (pv 2) (pa_cons (pe_fn Dp hr (pa_cons (pv 6) (pa_cons (pv 3) (pa_cons (pv 1) pa_nil)))) pa_nil)))
        (pss_cons (ps_dput hu (pv 1) (pv 3) (pv 6) rfl)
        (pss_one (ps_aug (i := 3) scFour.nd rfl (Or.inl rfl) pe_int ip_add)))))))))
      (pss_one (ps_ret (pe_listV rfl rfl B.list (pv 1)))))))), ?_⟩
    intro d hd
    refine ⟨Nat.zero_le _, fun q hq => ?_⟩
    have s1 : Same H (upd H d (.dK [])) := same_new hd
    have s2 : Same (upd H d (.dK [])) (upd (upd H d (.dK [])) q (.lst [])) := same_new hq
    have hqH : H q = Option.none := s1.free hq
    have hd2 : (upd (upd H d (.dK [])) q (.lst [])) d = some (.dK []) := s2 _ _ upd_same
    have hq2 : (upd (upd H d (.dK [])) q (.lst [])) q = some (.lst []) := upd_same
    have hl2 := hl.same (s1.trans s2)
    have s12 := s1.trans s2
    generalize upd (upd H d (.dK [])) q (.lst []) = H2 at *
    refine ⟨_, rfl, l, bs, rfl, hl2, by omega, fun H3 r s3 hrn hrL => ?_⟩
    obtain ⟨ar, hra, hrB⟩ := hrL
    have nrd : r ≠ d := fun z => by subst z; rw [hd2] at hrn; cases hrn
    have nrq : r ≠ q := fun z => by subst z; rw [hq2] at hrn; cases hrn
    have tlen : (Km444.tidy bs).length ≤ 2048 := Nat.le_trans (tidy_length bs) blen
    have tbd := tidy_bd bbd
    have tfull : ∀ b ∈ Km444.tidy bs, b.full = true := fun b hb => (tbd b hb).full
    have ttid := tidy_tid bs
    have goal : Km444.squeezed bs = sq (Km444.tidy bs) := rfl
    rw [goal] at k
    generalize Km444.tidy bs = tb at *
    have alen : ar.length = tb.length := hrB.len
    refine ⟨r, _, rfl, SqL.of hra, ?_⟩
    refine for_n ar.length (fun i σ H' => ∃ (v3 v4 : Option V) (kvs : List (Key × V)) (ts : List T3) (aq : List Addr), σ = [some (.ref l), some (.ref d), some (.ref q), v3, v4, none, none, none, none] ∧ Same H H' ∧ H' r = some (.lst (ar.map V.ref)) ∧ Bxs C H' ar tb ∧
        H' d = some (.dK kvs) ∧ Kvs C H' kvs (markFrom 0 (tb.take i)) ∧ H' q = some (.lst (aq.map V.ref)) ∧ Tps H' aq ts ∧ Prs (markFrom 0 (tb.take i)) ts ∧ ts.length ≤ 2048 * i)
      ⟨none, none, [], [], [], rfl, s12.trans s3, hra, hrB, s3 _ _ hd2, .nil, s3 _ _ hq2, .nil, prs_nil, Nat.zero_le _⟩
      (fun i σ H' hi ⟨_, _, _, _, _, _, _, hr', _⟩ => ⟨_, .ref ar[i], SqL.of hr', by rw [List.getElem?_map, List.getElem?_eq_getElem hi]; rfl⟩)
      (fun σ H' ⟨_, _, _, _, _, _, _, hr', _⟩ => ⟨_, SqL.of hr', by rw [List.length_map]; exact Nat.le_refl _⟩) ?_ ?_
    · rintro i y σ H4 H5 hi ⟨v3, v4, kvs, ts, aq, rfl, sH, hr4, hB4, hd4, hk4, hq4, hT4, hP, tl⟩ ⟨Tt, x, rfl, hTn, rfl, hx⟩
      obtain ⟨c, hc, rfl⟩ := get_map_ref (hx _ (SqL.of hr4))
      obtain ⟨z, hz, hcz⟩ := hB4.get hc
      have hiL : i < tb.length := by omega
      have til : (tb.take i).length = i := by rw [List.length_take]; omega
      have s5 : Same H4 (upd H4 Tt (.tup [.int (i : Nat), .ref c])) := same_new hTn
      refine ⟨Tt, _, rfl, SqT.of upd_same, rfl, _, _, rfl, _, _, rfl, rfl, ?_⟩
      generalize upd H4 Tt (.tup [.int (i : Nat), .ref c]) = H5 at *
      have mlen : (markFrom 0 (tb.take i)).length = i := by rw [← List.length_map (f := (·.2)), markFrom_map, til]
      refine ⟨_, rfl, .inl ⟨rfl, _, SqL.of (s5 _ _ hq4)⟩, _, rfl, _, rfl, _, rfl, c, d, z, (i : Int), kvs, markFrom 0 (tb.take i), rfl, hcz.same s5, s5 _ _ hd4, hk4.same s5, tbd z (List.mem_of_getElem? hz), fun p hp => ?_, by omega, fun H6 p as s6 hp hTp => ?_⟩
      · refine tbd p.2 (List.mem_of_mem_take (i := i) ?_)
        have : p.2 ∈ (markFrom 0 (tb.take i)).map (·.2) := List.mem_map.mpr ⟨p, hp, rfl⟩
        rw [markFrom_map] at this
        exact this
      have s46 := s5.trans s6
      have wl : (withB (markFrom 0 (tb.take i)) z (i : Int)).length = i := by unfold withB; rw [List.length_map]; exact mlen
      refine ⟨q, p, _, _, rfl, rfl, s46 _ _ hq4, hp, ?_, ?_⟩
      · rw [List.length_map, List.length_map, hT4.len, hTp.len, wl, sizeLine_eq]; omega
      have hq6 := s46 _ _ hq4
      have hd6 := s46 _ _ hd4
      have ndq : d ≠ q := ne_of hd6 hq6 (by intro z; cases z)
      have hd7 : (upd H6 q (.lst (aq.map V.ref ++ as.map V.ref))) d = some (.dK kvs) := by rw [upd_ne ndq]; exact hd6
      have klen : kvs.length = i := by rw [hk4.len]; exact mlen
      refine ⟨_, rfl, _, rfl, _, rfl, d, _, rfl, DPut.k (k := Sum.inl (i : Int)) hd7 (by rw [klen, sizeLine_eq]; omega), ?_⟩
      have trB : ∀ a b, BoxAt C H4 a b → BoxAt C (upd (upd H6 q (.lst (aq.map V.ref ++ as.map V.ref))) d (.dK (putK kvs (Sum.inl (i : Int)) (.ref c)))) a b := fun a b h => ((h.same s46).lst hq6).upd hd7 (fun _ _ _ z => by cases z)
      have asc := asc_mark (tb.take i)
      rw [til] at asc
      have vn : valV kvs (Sum.inl (i : Int)) = none := by
        rcases hk4.look (i : Int) with ⟨h1, _⟩ | ⟨_, b', _, _, h3⟩
        · exact h1
        · have := asc.2 _ h3
          simp only at this
          omega
      have em : markFrom 0 (tb.take (i + 1)) = markFrom 0 (tb.take i) ++ [((i : Int), z)] := by
        rw [take_snoc hz, markFrom_snoc, til, Int.zero_add]
      refine ⟨_, _, kvs ++ [(Sum.inl (i : Int), .ref c)], ts ++ withB (markFrom 0 (tb.take i)) z (i : Int), aq ++ as, rfl, Same.upd_new (Same.upd_new (sH.trans s46) hqH) hd, ?_, hB4.imp trB, ?_, ?_, ?_, ?_, ?_, ?_⟩
      · rw [upd_ne nrd, upd_ne nrq]; exact s46 _ _ hr4
      · rw [upd_same, putK_new _ vn]
      · rw [em]
        exact (hk4.imp trB).append (.cons ⟨rfl, c, rfl, trB _ _ hcz⟩ .nil)
      · rw [upd_ne (Ne.symm ndq), upd_same, List.map_append]
      · have nt : ∀ xs, HO.lst (aq.map V.ref) ≠ .tup xs := fun xs z => by cases z
        have nt2 : ∀ xs, HO.dK kvs ≠ .tup xs := fun xs z => by cases z
        exact ((Tps.upd hd7 nt2 (Tps.upd hq6 nt (Tps.same s46 hT4)))).append (Tps.upd hd7 nt2 (Tps.upd hq6 nt hTp))
      · rw [em]
        exact prs_snoc asc hP z
      · rw [List.length_append, wl]
        omega
    · rintro σ H4 ⟨v3, v4, kvs, ts, aq, rfl, sH, hr4, hB4, hd4, hk4, hq4, hT4, hP, tl⟩
      rw [alen, List.take_length] at hk4 hP
      rw [alen] at tl
      have klen : kvs.length = tb.length := by rw [hk4.len, ← List.length_map (f := (·.2)), markFrom_map]
      refine ⟨_, rfl, d, kvs, rfl, hd4, ?_⟩
      have T0 := turn4_start ttid tfull hP
      have mlen : (markFrom 0 tb).length = tb.length := by rw [← List.length_map (f := (·.2)), markFrom_map]
      refine ⟨fun m σ H' => Mid C H (sq tb) l m σ H', ⟨tb.length, ⟨d, q, _, kvs, _, ts, aq, _, _, _, _, _, rfl, sH, hd, hqH, hd4, hk4, hq4, hT4, by rw [klen]; exact T0, fun p hp => ?_, mlen, tlen, by omega⟩⟩, ?_⟩
      · refine tbd p.2 ?_
        have : p.2 ∈ (markFrom 0 tb).map (·.2) := List.mem_map.mpr ⟨p, hp, rfl⟩
        rw [markFrom_map] at this
        exact this
      clear hk4 hP tl klen T0 mlen hT4 hq4 hd4 hB4 hr4 sH v3 v4 kvs ts aq H4
      rintro m σ H4 ⟨d, q, mk, kvs, kp, ts, aq, v4, v5, v6, v7, v8, rfl, sH, hdH, hqH, hd4, hk4, hq4, hT4, T, kbd, rfl, km, tl⟩
      refine ⟨_, rfl, d, kvs, rfl, hd4, _, _, rfl, rfl, _, rfl, ?_⟩
      have klen := hk4.len
      refine ite2 (fun h => ⟨fun σ' H' => ∃ m', m' < kp.length ∧ Mid C H (sq tb) l m' σ' H', fun _ _ h => h, ?_⟩) (fun h => ?_)
      · have h4 : 4 < kp.length := by
          have := of_decide_eq_true h
          omega
        have pw := List.pairwise_iff_getElem.mp T.asc.1
        have tsne : ts ≠ [] := fun z => by
          have m := (T.prs (grow (kp[0]'(by omega)).2 (kp[1]'(by omega)).2, (kp[0]'(by omega)).1, (kp[1]'(by omega)).1)).mpr ⟨_, _, List.getElem_mem (by omega), List.getElem_mem (by omega), pw 0 1 (by omega) (by omega) (by decide), rfl⟩
          rw [z] at m
          exact absurd m List.not_mem_nil
        refine ⟨_, rfl, q, aq, ts, rfl, hq4, hT4, tsne, fun pt t ht hpt hmin => ?_⟩
        obtain ⟨pa, pb, hpa, hpb, hlt, et⟩ := (T.prs t).mp ht
        subst et
        have tk : ∀ p ∈ kp, ∃ a, valV kvs (Sum.inl p.1) = some (.ref a) ∧ BoxAt C H4 a p.2 := fun p hp => by
          rcases hk4.look p.1 with ⟨_, h2⟩ | ⟨a, b', h1, h2, h3⟩
          · exact absurd rfl (h2 p hp)
          · have e := asc_inj T.asc h3 hp rfl
            rw [← e]
            exact ⟨a, h1, h2⟩
        obtain ⟨a1, va, ba⟩ := tk pa hpa
        obtain ⟨a2, vb, bb⟩ := tk pb hpb
        have g1 : DGet H4 d (.int pa.1) (some (.ref a1)) := by
          have g := DGet.k (k := Sum.inl pa.1) hd4
          rw [va] at g
          exact g
        have g2 : DGet H4 d (.int pb.1) (some (.ref a2)) := by
          have g := DGet.k (k := Sum.inl pb.1) hd4
          rw [vb] at g
          exact g
        refine ⟨_, rfl, _, rfl, pt, _, _, _, rfl, rfl, SqT.of hpt, at_of (j := 1) rfl rfl, d, _, rfl, g1, _, rfl, _, rfl, pt, _, _, _, rfl, rfl, SqT.of hpt, at_of (j := 2) rfl rfl, d, _, rfl, g2, a1, a2, pa.2, pb.2, rfl, ba, bb, fun H5 wq s5 hw => ?_⟩
        obtain ⟨T', lt'⟩ := turn4 T h4 ht hmin hpa hpb rfl rfl
        have bw : Bd 100000000 (pa.2.join pb.2) := (kbd pa hpa).join (kbd pb hpb)
        generalize pa.2.join pb.2 = ww at *
        -- kept = dict([..])
        have hd5 := s5 _ _ hd4
        refine ⟨d, _, hd5, trivial, fun od => ?_⟩
        have back : ∀ {H'}, Same (upd H5 d (.frz od (.dK kvs))) H' → Same H5 (upd H' d (.dK kvs)) := fun s => unlock_same hd5 s
        have trU : ∀ a b, BoxAt C H5 a b → BoxAt C (upd H5 d (.frz od (.dK kvs))) a b := fun _ _ h => h.upd hd5 (fun _ _ _ z => by cases z)
        have hdU : (upd H5 d (.frz od (.dK kvs))) d = some (.frz od (.dK kvs)) := upd_same
        have hkU : Kvs C (upd H5 d (.frz od (.dK kvs))) kvs kp := (hk4.same s5).imp trU
        have hwU := trU _ _ hw
        generalize upd H5 d (.frz od (.dK kvs)) = HU at *
        refine ⟨_, rfl, d, od, kvs, rfl, hdU, fun D hD => ?_⟩
        refine lc_n kvs.length (fun i H' => Same HU H' ∧ ∃ (ps : List Addr) (kv2 : List (Key × V)), H' D = some (.lst (ps.map V.ref)) ∧ Prt H' ps kv2 ∧ Kvs C H' kv2 (nextK (kp.take i) ww) ∧ ps.length = kv2.length)
          ⟨same_new hD, [], [], upd_same, .nil, .nil, rfl⟩ (fun i H' hi ⟨s1, _⟩ => ⟨s1 _ _ hdU, hi⟩) (fun H' ⟨s1, _⟩ => ⟨s1 _ _ hdU, Nat.le_refl _⟩) ?_ ?_
        · rintro i x HA HB hi ⟨sA, ps, kv2, hDA, hPA, hKA, lA⟩ ⟨Tt, key, v, hkv, rfl, hTn, rfl⟩
          obtain ⟨p, hp, he, c, hv, hcp⟩ := hkU.get hkv
          simp only at he hv
          subst he hv
          have sB : Same HA (upd HA Tt (.tup [kV (Sum.inl p.1), .ref c])) := same_new hTn
          refine ⟨Tt, _, rfl, SqT.of upd_same, rfl, _, _, rfl, _, _, rfl, rfl, rfl, ?_⟩
          generalize upd HA Tt (.tup [kV (Sum.inl p.1), .ref c]) = HB at *
          have sAB := sA.trans sB
          refine ⟨_, rfl, _, rfl, c, wq, p.2, ww, rfl, hcp.same sAB, hwU.same sAB, _, rfl, ?_⟩
          have nk : nextK (kp.take (i + 1)) ww = nextK (kp.take i) ww ++ if (!p.2.inside ww) = true then [p] else [] := filter_snoc (p := fun a : Int × Box => !a.2.inside ww) hp
          refine ite2 (fun hf => ⟨_, rfl, _, rfl, (by show 2 ≤ sizeLine; decide), fun tp htp => ?_⟩) (fun hf => ⟨sAB, ps, kv2, sB _ _ hDA, Prt.same sB hPA, ?_, lA⟩)
          · have sC : Same HB (upd HB tp (.tup [.int p.1, .ref c])) := same_new htp
            have hDC := sC _ _ (sB _ _ hDA)
            have hln : kv2.length ≤ 2048 := by
              rw [hKA.len]
              unfold nextK
              exact Nat.le_trans (List.length_filter_le _ _) (by rw [List.length_take]; omega)
            have nt : ∀ xs, HO.lst (ps.map V.ref) ≠ .tup xs := fun xs z => by cases z
            refine ⟨_, hDC, by rw [List.length_map, lA, sizeLine_eq]; omega, Same.upd_new (sAB.trans sC) hD, ps ++ [tp], kv2 ++ [(Sum.inl p.1, .ref c)], ?_, ?_, ?_, ?_⟩
            · rw [upd_same, List.map_append]; rfl
            · exact (Prt.upd hDC nt (Prt.same (sB.trans sC) hPA)).append (.cons (by rw [upd_ne (ne_of upd_same hDC (by intro z; cases z)), upd_same]; rfl) .nil)
            · rw [nk, if_pos hf]
              exact ((hKA.same (sB.trans sC)).imp fun _ _ h => h.lst hDC).append (.cons ⟨rfl, c, rfl, ((hcp.same sAB).same sC).lst hDC⟩ .nil)
            · rw [List.length_append, List.length_append, lA]; rfl
          · rw [nk, if_neg hf, List.append_nil]
            exact hKA.same sB
        rintro H6 ⟨s6, ps, kv2, hD6, hP6, hK6, l6⟩
        rw [klen, List.take_length] at hK6
        have hd6 := s6 _ _ hdU
        have nDd : D ≠ d := ne_of hD6 hd6 (by intro z; cases z)
        have s56 : Same H5 (upd H6 d (.dK kvs)) := back s6
        have tr6 : ∀ a b, BoxAt C H6 a b → BoxAt C (upd H6 d (.dK kvs)) a b := fun _ _ h => h.upd hd6 (fun _ _ _ z => by cases z)
        refine ⟨hd6, D, ps, kv2, rfl, SqL.of (by rw [upd_ne nDd]; exact hD6), (Prt.upd hd6 (fun xs z => by cases z) hP6).sq, fun nd hnd => ?_⟩
        have asc2 := asc_filter T.asc (fun a => !a.2.inside ww)
        have em : mergeK [] kv2 = kv2 := by
          rw [merge_new kv2 [] (hK6.nodup asc2.1) (fun _ _ => rfl), List.nil_append]
        rw [em]
        have s7 : Same (upd H6 d (.dK kvs)) (upd (upd H6 d (.dK kvs)) nd (.dK kv2)) := same_new hnd
        have s57 := s56.trans s7
        have sH7 := (sH.trans s5).trans s57
        have hndH : H nd = Option.none := ((sH.trans s5).trans s56).free hnd
        have hnd7 : (upd (upd H6 d (.dK kvs)) nd (.dK kv2)) nd = some (.dK kv2) := upd_same
        have hK7 : Kvs C (upd (upd H6 d (.dK kvs)) nd (.dK kv2)) kv2 (nextK kp ww) := (hK6.imp tr6).same s7
        have hq7 := s57 _ _ (s5 _ _ hq4)
        have hT7 := Tps.same (s5.trans s57) hT4
        have hw7 := hw.same s57
        generalize upd (upd H6 d (.dK kvs)) nd (.dK kv2) = H7 at *
        -- pairs = [..]
        refine ⟨_, rfl, q, rfl, ⟨_, SqL.of hq7⟩, fun D2 hD2 => ?_⟩
        refine lc_list (K := K) (a := q) (xs := aq.map V.ref) (fun i H' => Same H7 H' ∧ ∃ a2, H' D2 = some (.lst (a2.map V.ref)) ∧ Tps H' a2 ((ts.take i).filter (still (nextK kp ww)))) ⟨same_new hD2, [], upd_same, .nil⟩ (fun i H' _ ⟨s, _⟩ => SqL.of (s _ _ hq7)) ?_ ?_
        · rintro i x HA hi ⟨sA, a2, hA2, hTA⟩
          obtain ⟨c, hc, rfl⟩ := get_map_ref hi
          obtain ⟨u, hu', hcu⟩ := Tps.get hT7 hc
          have hcA : TupAt HA c u := sA _ _ hcu
          have hndA := sA _ _ hnd7
          have i1 := (hK7.isSome u.2.1)
          have i2 := (hK7.isSome u.2.2)
          have fl := filter_snoc (p := still (nextK kp ww)) hu'
          have stE : still (nextK kp ww) u = ((valV kv2 (Sum.inl u.2.1)).isSome && (valV kv2 (Sum.inl u.2.2)).isSome) := by rw [i1, i2]; rfl
          refine ⟨rfl, _, rfl, c, _, _, _, rfl, rfl, SqT.of hcA, at_of (j := 1) rfl rfl, _, rfl, nd, _, rfl, DGet.k (k := Sum.inl u.2.1) hndA, _, rfl, ?_⟩
          refine ite2 (fun h1 => ⟨_, rfl, c, _, _, _, rfl, rfl, SqT.of hcA, at_of (j := 2) rfl rfl, _, rfl, nd, _, rfl, DGet.k (k := Sum.inl u.2.2) hndA, _, rfl, ?_⟩) (fun h1 => ?_)
          · refine ite2 (fun h2 => ⟨_, rfl, _, hA2, ?_, Same.upd_new sA hD2, a2 ++ [c], ?_, ?_⟩) (fun h2 => ⟨sA, a2, hA2, ?_⟩)
            · rw [List.length_map, hTA.len]
              refine Nat.lt_of_le_of_lt (List.length_filter_le _ _) ?_
              rw [List.length_take, sizeLine_eq]; omega
            · rw [upd_same, List.map_append]; rfl
            · rw [fl, if_pos (by rw [stE, h1, h2]; rfl)]
              have nt : ∀ xs, HO.lst (a2.map V.ref) ≠ .tup xs := fun xs z => by cases z
              exact (Tps.upd hA2 nt hTA).append (.cons (TupAt.upd hcA hA2 nt) .nil)
            · rw [fl, if_neg (by rw [stE, h1]; simpa using h2), List.append_nil]
              exact hTA
          · refine iteF ⟨sA, a2, hA2, ?_⟩
            have h1' : (valV kv2 (Sum.inl u.2.1)).isSome = false := by simpa using h1
            rw [fl, if_neg (by rw [stE, h1']; simp), List.append_nil]
            exact hTA
        rintro H8 ⟨s8, a2', hA8, hT8⟩
        rw [List.length_map, hT4.len, List.take_length] at hT8
        have hnd8 := s8 _ _ hnd7
        have nkl : (nextK kp ww).length + 1 < kp.length := by
          rw [List.length_append] at lt'
          exact lt'
        have fll : (ts.filter (still (nextK kp ww))).length ≤ ts.length := List.length_filter_le _ _
        have wl : (withB (nextK kp ww) ww mk).length = (nextK kp ww).length := by unfold withB; rw [List.length_map]
        have hD2H : H D2 = Option.none := sH7.free hD2
        refine ⟨_, rfl, .inl ⟨rfl, _, SqL.of hA8⟩, _, rfl, _, rfl, _, rfl, wq, nd, ww, mk, kv2, nextK kp ww, rfl, hw7.same s8, hnd8, hK7.same s8, bw, fun p hp => kbd p (List.mem_filter.mp hp).1, by omega, fun H9 p as s9 hp hTp => ?_⟩
        have hA9 := s9 _ _ hA8
        have hnd9 := s9 _ _ hnd8
        have nndq : nd ≠ D2 := ne_of hnd9 hA9 (by intro z; cases z)
        refine ⟨D2, p, _, _, rfl, rfl, hA9, hp, ?_, ?_⟩
        · rw [List.length_map, List.length_map, hT8.len, hTp.len, wl, sizeLine_eq]; omega
        have hnd10 : (upd H9 D2 (.lst (a2'.map V.ref ++ as.map V.ref))) nd = some (.dK kv2) := by rw [upd_ne nndq]; exact hnd9
        refine ⟨_, rfl, _, rfl, _, rfl, nd, _, rfl, DPut.k (k := Sum.inl mk) hnd10 (by rw [hK7.len, sizeLine_eq]; omega), ?_⟩
        have trB : ∀ a b, BoxAt C H7 a b → BoxAt C (upd (upd H9 D2 (.lst (a2'.map V.ref ++ as.map V.ref))) nd (.dK (putK kv2 (Sum.inl mk) (.ref wq)))) a b := fun a b h => ((h.same (s8.trans s9)).lst hA9).upd hnd10 (fun _ _ _ z => by cases z)
        have vn : valV kv2 (Sum.inl mk) = none := by
          rcases hK7.look mk with ⟨h1, _⟩ | ⟨_, b', _, _, h3⟩
          · exact h1
          · have := asc2.2 _ h3
            simp only at this
            omega
        have nt : ∀ xs, HO.lst (a2'.map V.ref) ≠ .tup xs := fun xs z => by cases z
        have nt2 : ∀ xs, HO.dK kv2 ≠ .tup xs := fun xs z => by cases z
        refine ⟨_, rfl, _, _, rfl, rfl, _, lt', ⟨nd, D2, mk + 1, kv2 ++ [(Sum.inl mk, .ref wq)], nextK kp ww ++ [(mk, ww)], _, a2' ++ as, _, _, _, _, _, rfl, Same.upd_new (Same.upd_new ((sH7.trans s8).trans s9) hD2H) hndH, hndH, hD2H, ?_, ?_, ?_, ?_, T', ?_, rfl, by omega, ?_⟩⟩
        · rw [upd_same, putK_new _ vn]
        · exact (hK7.imp trB).append (.cons ⟨rfl, wq, rfl, trB _ _ hw7⟩ .nil)
        · rw [upd_ne (Ne.symm nndq), upd_same, List.map_append]
        · exact (Tps.upd hnd10 nt2 (Tps.upd hA9 nt (Tps.same s9 hT8))).append (Tps.upd hnd10 nt2 (Tps.upd hA9 nt hTp))
        · intro x hx
          rcases List.mem_append.mp hx with hx | hx
          · exact kbd x (List.mem_filter.mp hx).1
          · rw [List.mem_singleton] at hx; subst hx; exact bw
        · rw [List.length_append, List.length_append, wl, List.length_singleton]; omega
      · have h4 : kp.length ≤ 4 := by
          have : ¬ (4 : Int) < (kvs.length : Nat) := fun z => h (decide_eq_true z)
          omega
        obtain ⟨as, e1, e2⟩ := hk4.vals
        refine ⟨_, rfl, d, kvs, rfl, hd4, fun lv hlv => k _ lv (sH.trans (same_new hlv)) (sH.free hlv) ⟨as, by rw [upd_same, e1], ?_⟩⟩
        rw [turn4_end T h4] at e2
        exact Bxs.same (same_new hlv) e2
end
end Db
end
section
/-! min and max of four ints; a def called by a name that holds it. -/
set_option Elab.async false
set_option linter.all false
set_option maxRecDepth 100000
namespace Db
open PySem PySem.Spec PyProof.Rows L2
section
variable {prog : Program} {w : World} {A : Around} {E : Value → Shared → Prop} {s : Shared}
theorem args_min4 (a b c d : Value) : argsOk "min" ⟨[a, b, c, d], []⟩ := by unfold argsOk; kernel_rfl
theorem args_max4 (a b c d : Value) : argsOk "max" ⟨[a, b, c, d], []⟩ := by unfold argsOk; kernel_rfl
/-- what the walk of a new tuple wants -/
abbrev Wk (prog : Program) (w : World) (A : Around) (op : CmpOp) (Q : Value → Shared → Prop) (it : Value) (s2 : Shared) : Prop :=
  ∃ I fp wr n P Sx bt, it = .ref I ∧ Walks prog w A.in1 I fp wr n P Sx ∧ Sx 0 s2.heap ∧ (∀ b ∈ fp, b < s2.heap.objs.size) ∧ 0 < n ∧ CmpOf prog w A.in1 op P bt ∧
    ∀ v h1 t1, P (argBest bt (n - 1)) v → (∀ b o, b ∉ wr → s2.heap.get? b = some o → h1.get? b = some o) → Q v { s2 with heap := h1, toks := t1 }
theorem min_four {a b c d : Value} {Q : Value → Shared → Prop} (h : wpAny (model prog w) A.in1 (pyIter (.ref s.heap.objs.size)) (Wk prog w A .Lt Q) E { s with heap := s.heap.push { cls := .type "tuple", data := .seq #[a, b, c, d] } }) :
    wpAny (model prog w) A (call (.builtin "min") [a, b, c, d]) Q E s := by
  have nm : (toString "min" ++ toString ".loop" : String) = "min.loop" := by decide
  refine call_function_tree F.kind_min F.plain_min F.entry_min (args_min4 _ _ _ _) ?_
  change wpAny _ A.in1 (Builtin.Builtins.bindParams "min" ["key", "default"] 0 ⟨[], []⟩ >>= _) _ _ s
  refine wpAny_bind (wpAny_of_eq (show Builtin.Builtins.bindParams "min" ["key", "default"] 0 ⟨[], []⟩ = pure [none, none] from rfl) ?_)
  change wpAny _ A.in1 (newTuple [a, b, c, d] >>= _) _ _ s
  refine wpAny_bind (wpAny_newObj_type ?_)
  refine wpAny_bind (wpAny_mono h (fun it s2 q => ?_) fun _ _ e => e)
  obtain ⟨I, fp, wr, n, P, Sx, bt, rfl, W, st, lf, hn, cm, fin⟩ := q
  refine wpAny_bind (wpAny_newObj_type ?_)
  have sf : s2.heap.objs.size ∉ fp := fun z => Nat.lt_irrefl _ (lf _ z)
  rw [nm]
  refine wpAny_pure ⟨plainId_quiet F.plain_min_loop _, codeAny_min_loop_first W bt cm s2.heap.objs.size sf hn (W.frame _ _ _ st fun b _ o e => Heap.get?_push_of_some _ e) (Heap.get?_push_size _ rfl) fun v h1 t1 pv k => ?_⟩
  exact fin v h1 t1 pv fun b o n1 e => k b o n1 (Nat.ne_of_lt (Heap.lt_size e)) (Heap.get?_push_of_some _ e)
theorem max_four {a b c d : Value} {Q : Value → Shared → Prop} (h : wpAny (model prog w) A.in1 (pyIter (.ref s.heap.objs.size)) (Wk prog w A .Gt Q) E { s with heap := s.heap.push { cls := .type "tuple", data := .seq #[a, b, c, d] } }) :
    wpAny (model prog w) A (call (.builtin "max") [a, b, c, d]) Q E s := by
  have nm : (toString "max" ++ toString ".loop" : String) = "max.loop" := by decide
  refine call_function_tree F.kind_max F.plain_max F.entry_max (args_max4 _ _ _ _) ?_
  change wpAny _ A.in1 (Builtin.Builtins.bindParams "max" ["key", "default"] 0 ⟨[], []⟩ >>= _) _ _ s
  refine wpAny_bind (wpAny_of_eq (show Builtin.Builtins.bindParams "max" ["key", "default"] 0 ⟨[], []⟩ = pure [none, none] from rfl) ?_)
  change wpAny _ A.in1 (newTuple [a, b, c, d] >>= _) _ _ s
  refine wpAny_bind (wpAny_newObj_type ?_)
  refine wpAny_bind (wpAny_mono h (fun it s2 q => ?_) fun _ _ e => e)
  obtain ⟨I, fp, wr, n, P, Sx, bt, rfl, W, st, lf, hn, cm, fin⟩ := q
  refine wpAny_bind (wpAny_newObj_type ?_)
  have sf : s2.heap.objs.size ∉ fp := fun z => Nat.lt_irrefl _ (lf _ z)
  rw [nm]
  refine wpAny_pure ⟨plainId_quiet F.plain_max_loop _, codeAny_max_loop_first W bt cm s2.heap.objs.size sf hn (W.frame _ _ _ st fun b _ o e => Heap.get?_push_of_some _ e) (Heap.get?_push_size _ rfl) fun v h1 t1 pv k => ?_⟩
  exact fin v h1 t1 pv fun b o n1 e => k b o n1 (Nat.ne_of_lt (Heap.lt_size e)) (Heap.get?_push_of_some _ e)
/-- the walk of a new tuple of four ints -/
theorem walk4 {xs : Array (Int × Tok)} {op : CmpOp} {Q : Value → Shared → Prop} (hh : A.handled = none) (hn : 0 < xs.size) (bt : Nat → Nat → Bool) (cm : CmpOf prog w A.in1 op (fun i v => (intItems xs)[i]? = some v) bt)
    (h : ∀ t h1 t1, (∀ b o, s.heap.get? b = some o → h1.get? b = some o) → Q (.int (numAt xs (argBest bt (xs.size - 1))) t) { s with heap := h1, toks := t1 }) :
    wpAny (model prog w) A.in1 (pyIter (.ref s.heap.objs.size)) (Wk prog w A op Q) E { s with heap := s.heap.push { cls := .type "tuple", data := .seq (intItems xs) } } := by
  have hT : (s.heap.push { cls := .type "tuple", data := .seq (intItems xs) }).IsTuple s.heap.objs.size (intItems xs) := ⟨_, Heap.get?_push_size _ rfl, rfl, 0, rfl⟩
  have z1 : (s.heap.push { cls := .type "tuple", data := .seq (intItems xs) }).objs.size = s.heap.objs.size + 1 := Heap.size_push ..
  have isz : (intItems xs).size = xs.size := by simp [intItems]
  refine wpAny_pyIter_tuple hT ⟨_, [_, s.heap.objs.size], [_], (intItems xs).size, fun i v => (intItems xs)[i]? = some v, _, bt, rfl, Walks.tuple (A := A.in1) hh _ s.heap.objs.size (by rw [z1]; exact Nat.ne_of_lt (Nat.lt_succ_self _)) (intItems xs),
    ⟨⟨_, Heap.get?_push_size _ rfl, rfl, rfl⟩, hT.push _⟩, fun b hb => ?_, by rw [isz]; exact hn, cm, fun v h1 t1 pv k => ?_⟩
  · change b < ((s.heap.push _).push _).objs.size
    rw [Heap.size_push, z1]
    rcases List.mem_cons.mp hb with rfl | hb
    · rw [z1]; exact Nat.lt_succ_self _
    · rw [List.mem_singleton] at hb
      rw [hb]
      exact Nat.lt_succ_of_lt (Nat.lt_succ_self _)
  · rw [isz] at pv
    obtain ⟨t, rfl⟩ := intItems_at pv
    refine h t h1 t1 fun b o e => k b o (fun z => ?_) (Heap.get?_push_of_some _ (Heap.get?_push_of_some _ e))
    have lb := Heap.lt_size e
    rw [List.mem_singleton] at z
    rw [z, z1] at lb
    exact absurd lb (Nat.not_lt_of_lt (Nat.lt_succ_self _))
end
section
variable {X : Cx}
theorem Vals.int4 {i j k l : Int} {us : List Value} (r : Vals [V.int i, V.int j, V.int k, V.int l] us) : ∃ t1 t2 t3 t4, us = [Value.int i t1, Value.int j t2, Value.int k t3, Value.int l t4] := by
  cases r with
  | cons r1 r =>
    cases r with
    | cons r2 r =>
      cases r with
      | cons r3 r =>
        cases r with
        | cons r4 r =>
          cases r
          obtain ⟨t1, rfl⟩ := r1
          obtain ⟨t2, rfl⟩ := r2
          obtain ⟨t3, rfl⟩ := r3
          obtain ⟨t4, rfl⟩ := r4
          exact ⟨t1, t2, t3, t4, rfl⟩
theorem cmin4 (hc : X.calm = true) : CallR X (.builtin "min") (fun xs H Q => ∃ i j k l, xs = [.int i, .int j, .int k, .int l] ∧ Q (.int (min (min i j) (min k l))) H) := by
  intro pins s σ H xs us Q I r ⟨i, j, k, l, e, q⟩
  subst e
  obtain ⟨t1, t2, t3, t4, rfl⟩ := Vals.int4 r
  refine min_four ?_
  have ei : (#[Value.int i t1, Value.int j t2, Value.int k t3, Value.int l t4] : Array Value) = intItems #[(i, t1), (j, t2), (k, t3), (l, t4)] := by simp [intItems]
  rw [ei]
  refine walk4 (xs := #[(i, t1), (j, t2), (k, t3), (l, t4)]) (I.ok.hd hc) (Nat.zero_lt_succ 3) _ (CmpOf.ints_lt (numAt #[(i, t1), (j, t2), (k, t3), (l, t4)]) (fun _ _ => intItems_at)) fun t h1 tk kp => ?_
  obtain ⟨h1, h2⟩ := argBest_lt (numAt #[(i, t1), (j, t2), (k, t3), (l, t4)]) 3
  have a0 : numAt #[(i, t1), (j, t2), (k, t3), (l, t4)] 0 = i := rfl
  have a1 : numAt #[(i, t1), (j, t2), (k, t3), (l, t4)] 1 = j := rfl
  have a2 : numAt #[(i, t1), (j, t2), (k, t3), (l, t4)] 2 = k := rfl
  have a3 : numAt #[(i, t1), (j, t2), (k, t3), (l, t4)] 3 = l := rfl
  have e0 := h2 0 (by omega)
  have e1 := h2 1 (by omega)
  have e2 := h2 2 (by omega)
  have e3 := h2 3 (by omega)
  have e : numAt #[(i, t1), (j, t2), (k, t3), (l, t4)] (argBest (fun a b => decide (numAt #[(i, t1), (j, t2), (k, t3), (l, t4)] a < numAt #[(i, t1), (j, t2), (k, t3), (l, t4)] b)) 3) = min (min i j) (min k l) := by
    generalize (argBest (fun a b => decide (numAt #[(i, t1), (j, t2), (k, t3), (l, t4)] a < numAt #[(i, t1), (j, t2), (k, t3), (l, t4)] b)) 3) = z at *
    have : z = 0 ∨ z = 1 ∨ z = 2 ∨ z = 3 := by omega
    rcases this with rfl | rfl | rfl | rfl <;> simp only [a0, a1, a2, a3] at * <;> omega
  exact ⟨.int _, H, I.kept kp, ⟨t, congrArg (fun z => Value.int z t) e⟩, q⟩
theorem cmax4 (hc : X.calm = true) : CallR X (.builtin "max") (fun xs H Q => ∃ i j k l, xs = [.int i, .int j, .int k, .int l] ∧ Q (.int (max (max i j) (max k l))) H) := by
  intro pins s σ H xs us Q I r ⟨i, j, k, l, e, q⟩
  subst e
  obtain ⟨t1, t2, t3, t4, rfl⟩ := Vals.int4 r
  refine max_four ?_
  have ei : (#[Value.int i t1, Value.int j t2, Value.int k t3, Value.int l t4] : Array Value) = intItems #[(i, t1), (j, t2), (k, t3), (l, t4)] := by simp [intItems]
  rw [ei]
  refine walk4 (xs := #[(i, t1), (j, t2), (k, t3), (l, t4)]) (I.ok.hd hc) (Nat.zero_lt_succ 3) _ (CmpOf.ints_gt (numAt #[(i, t1), (j, t2), (k, t3), (l, t4)]) (fun _ _ => intItems_at)) fun t h1 tk kp => ?_
  obtain ⟨h1, h2⟩ := argBest_gt (numAt #[(i, t1), (j, t2), (k, t3), (l, t4)]) 3
  have a0 : numAt #[(i, t1), (j, t2), (k, t3), (l, t4)] 0 = i := rfl
  have a1 : numAt #[(i, t1), (j, t2), (k, t3), (l, t4)] 1 = j := rfl
  have a2 : numAt #[(i, t1), (j, t2), (k, t3), (l, t4)] 2 = k := rfl
  have a3 : numAt #[(i, t1), (j, t2), (k, t3), (l, t4)] 3 = l := rfl
  have e0 := h2 0 (by omega)
  have e1 := h2 1 (by omega)
  have e2 := h2 2 (by omega)
  have e3 := h2 3 (by omega)
  have e : numAt #[(i, t1), (j, t2), (k, t3), (l, t4)] (argBest (fun a b => decide (numAt #[(i, t1), (j, t2), (k, t3), (l, t4)] a > numAt #[(i, t1), (j, t2), (k, t3), (l, t4)] b)) 3) = max (max i j) (max k l) := by
    generalize (argBest (fun a b => decide (numAt #[(i, t1), (j, t2), (k, t3), (l, t4)] a > numAt #[(i, t1), (j, t2), (k, t3), (l, t4)] b)) 3) = z at *
    have : z = 0 ∨ z = 1 ∨ z = 2 ∨ z = 3 := by omega
    rcases this with rfl | rfl | rfl | rfl <;> simp only [a0, a1, a2, a3] at * <;> omega
  exact ⟨.int _, H, I.kept kp, ⟨t, congrArg (fun z => Value.int z t) e⟩, q⟩

/-- f(e, ..), f a name of the frame that holds a def of the module -/
def tCallV (i : Nat) (S : Addr → Sp → Prop) (t : TA) : TE := fun σ H Q => ∃ f sp, σ[i]? = some (some (.ref f)) ∧ S f sp ∧ t σ H fun vs H1 => sp vs H1 Q E0
theorem pe_callv {k i : Nat} {x : Str} {p pos : Pos} {e : Expr} {es : List Expr} {t : TA} {S : Addr → Sp → Prop} (hx : PE X (.Name x p) (tVar i)) (hr : Room k X.A)
    (hS : ∀ f sp, S f sp → ∃ fd ps, FnOk X.prog X.w X.K X.mg X.base CX0 k f fd ps sp ∧ PySem.W.keepIn X.K (.ref f) = true ∧ Binds X.K fd ps []) (ha : PA X (e :: es) t)
    (he : starEach (e :: es) X.env = (false, eval e X.env) :: starEach es X.env := by rfl) (hpl : (backTo pos (starEach es X.env)).any (·.1) = false := by rfl) :
    PE X (.Call (.Name x p) (e :: es) [] pos) (tCallV i S t) := by
  intro pins s σ H Q I ⟨f, sp, hσ, hs, h⟩
  obtain ⟨fd, ps, F, hk, hb⟩ := hS f sp hs
  refine wpAny_Call_Name_kw (thn (hx pins s σ H (fun v H' => v = .ref f ∧ H' = H) I ⟨_, hσ, rfl, rfl⟩) fun u s1 ⟨v, H1, I1, ru, ev, eh⟩ => ?_)
  subst ev eh
  cases ru
  refine PySem.W.callWith_K (h₀ := X.base) I.ok.mod.kin hk (thn (ha pos pins s1 σ H1 _ I1 h) fun us s2 ⟨vs, H2, I2, r, q⟩ => ⟨I2.kIn, ?_⟩) he hpl
  exact run_fn F hr hb .nil pass0 I2 r (by rw [List.append_nil]; exact q)
end
end Db
end
section
set_option Elab.async false
set_option linter.all false
set_option maxRecDepth 100000
namespace Db
open PySem PySem.Spec PyProof.Rows L2
/-- a def of the module, from the written part -/
theorem def_of {K : PySem.W.Frag} {h : Heap} {mg : Str → Option Value} (X : K.In h) (G : h.Ns mainGlobals mg) {x : Str} {st : Stmt} {f : Addr} {oc : Value} {od an : Option Addr} {osl : Array (Option Value)} {kV doc pm cdv ct : Value}
    (a : PySem.W.nsIn K mainGlobals x = some (some (.ref f))) (l : K.lookup f = some ⟨oc, od, .func (PySem.W.fnOf x x (defArgs st) (defBody st) (defScope st) .none kV doc pm an cdv ct), osl⟩)
    (c : PySem.W.codeIn K cdv x = true) (k : PySem.W.keepIn K (.ref f) = true) : ∃ fd, At K mg x x st f fd := ⟨_, fun_mk l c k, PySem.W.mg_of X G a⟩
theorem At.df {P : Program} {w : World} {K : PySem.W.Frag} {mg : Str → Option Value} {base : Heap} {k : Nat} {x qual : Str} {st : Stmt} {f : Addr} {fd : FuncData} {ps : List Str} {sp : Sp} (A : At K mg x qual st f fd) (ok : FnOk P w K mg base CX0 k f fd ps sp)
    (h : ∀ (kV doc pm : Value) (an : Option Addr) (cdv ct : Value) (us : List Value), us.length = ps.length → bindArgs (PySem.W.fnOf x qual (defArgs st) (defBody st) (defScope st) .none kV doc pm an cdv ct) ⟨us, []⟩ = pure (ps.zip us)) : Df P w K mg base k x ps sp :=
  ⟨f, fd, ok, A.mg, A.fn.kp, A.fn.binds h⟩
/-- a table of the module: a tuple that stands in the written part -/
theorem tab_of {K : PySem.W.Frag} {h : Heap} {mg : Str → Option Value} (X : K.In h) (G : h.Ns mainGlobals mg) {x : Str} {p : Addr} {dd : Option Addr} {its : Array Value} {n : Nat} {sl : Array (Option Value)}
    (a : PySem.W.nsIn K mainGlobals x = some (some (.ref p))) (l : K.lookup p = some ⟨.type "tuple", dd, .seq its n, sl⟩) : mg x = some (.ref p) ∧ K.lookup p = some ⟨.type "tuple", dd, .seq its n, sl⟩ := ⟨PySem.W.mg_of X G a, l⟩
theorem tup_of {K : PySem.W.Frag} {h : Heap} (X : K.In h) (p : Addr) {dd : Option Addr} {its : Array Value} {n : Nat} {sl : Array (Option Value)} (l : K.lookup p = some ⟨.type "tuple", dd, .seq its n, sl⟩) : K.lookup p = some ⟨.type "tuple", dd, .seq its n, sl⟩ := l
end Db
end
section
/-! What stands on the heap: seas, the course; what is tagged, what stays. -/
set_option Elab.async false
set_option linter.all false
set_option maxRecDepth 100000
namespace Db
open PySem PySem.Spec PyProof.Rows L2
open Km444 (Box Sea Desk)

/-- the classes of boxes, seas, the course -/
structure Cl where
  B : Addr
  S : Addr
  K : Addr
  bs : B ≠ S
  bk : B ≠ K
  sk : S ≠ K
/-- a sea's attributes; the course's -/
def sf (hour : Int) (lb ll cu wi : Addr) (seen lo hi : Int) (p : Addr) : List (Str × V) :=
  [("hour", .int hour), ("boxes", .ref lb), ("lands", .ref ll), ("current", .ref cu), ("wind", .ref wi), ("sightings", .int seen), ("lo", .int lo), ("hi", .int hi), ("ahead", .ref p)]
def cf (a le ll : Addr) : List (Str × V) := [("sea", .ref a), ("earlier", .ref le), ("later", .ref ll)]
section
variable {hour seen lo hi z : Int} {lb ll cu wi p y a le : Addr}
theorem sf_hour : (sf hour lb ll cu wi seen lo hi p).lookup ("hour" : Str) = some (.int hour) := rfl
theorem sf_boxes : (sf hour lb ll cu wi seen lo hi p).lookup ("boxes" : Str) = some (.ref lb) := rfl
theorem sf_lands : (sf hour lb ll cu wi seen lo hi p).lookup ("lands" : Str) = some (.ref ll) := rfl
theorem sf_current : (sf hour lb ll cu wi seen lo hi p).lookup ("current" : Str) = some (.ref cu) := rfl
theorem sf_wind : (sf hour lb ll cu wi seen lo hi p).lookup ("wind" : Str) = some (.ref wi) := rfl
theorem sf_seen : (sf hour lb ll cu wi seen lo hi p).lookup ("sightings" : Str) = some (.int seen) := rfl
theorem sf_lo : (sf hour lb ll cu wi seen lo hi p).lookup ("lo" : Str) = some (.int lo) := rfl
theorem sf_hi : (sf hour lb ll cu wi seen lo hi p).lookup ("hi" : Str) = some (.int hi) := rfl
theorem sf_ahead : (sf hour lb ll cu wi seen lo hi p).lookup ("ahead" : Str) = some (.ref p) := rfl
theorem sf_copied : (sf hour lb ll cu wi seen lo hi p).lookup ("copied" : Str) = none := rfl
theorem sf_drift : (sf hour lb ll cu wi seen lo hi p).lookup ("hour_drift" : Str) = none := rfl
theorem sf_after : (sf hour lb ll cu wi seen lo hi p).lookup ("boxes_after" : Str) = none := rfl
theorem put_hour : putF "hour" (.int z) (sf hour lb ll cu wi seen lo hi p) = sf z lb ll cu wi seen lo hi p := rfl
theorem put_boxes : putF "boxes" (.ref y) (sf hour lb ll cu wi seen lo hi p) = sf hour y ll cu wi seen lo hi p := rfl
theorem put_lands : putF "lands" (.ref y) (sf hour lb ll cu wi seen lo hi p) = sf hour lb y cu wi seen lo hi p := rfl
theorem put_current : putF "current" (.ref y) (sf hour lb ll cu wi seen lo hi p) = sf hour lb ll y wi seen lo hi p := rfl
theorem put_wind : putF "wind" (.ref y) (sf hour lb ll cu wi seen lo hi p) = sf hour lb ll cu y seen lo hi p := rfl
theorem put_seen : putF "sightings" (.int z) (sf hour lb ll cu wi seen lo hi p) = sf hour lb ll cu wi z lo hi p := rfl
theorem sf_len : (sf hour lb ll cu wi seen lo hi p).length < 1000 := by show 9 < 1000; decide
theorem cf_sea : (cf a le ll).lookup ("sea" : Str) = some (.ref a) := rfl
theorem cf_earlier : (cf a le ll).lookup ("earlier" : Str) = some (.ref le) := rfl
theorem cf_later : (cf a le ll).lookup ("later" : Str) = some (.ref ll) := rfl
theorem cf_begin : (cf a le ll).lookup ("begin" : Str) = none := rfl
theorem cf_change : (cf a le ll).lookup ("change" : Str) = none := rfl
theorem cf_back : (cf a le ll).lookup ("take_back" : Str) = none := rfl
theorem cf_again : (cf a le ll).lookup ("do_again" : Str) = none := rfl
theorem put_sea : putF "sea" (.ref y) (cf a le ll) = cf y le ll := rfl
theorem put_earlier : putF "earlier" (.ref y) (cf a le ll) = cf a y ll := rfl
theorem put_later : putF "later" (.ref y) (cf a le ll) = cf a le y := rfl
theorem cf_len : (cf a le ll).length < 1000 := by show 3 < 1000; decide
end

/-- tags: (a, 0) what lies ahead of the sea a; (c, 1), (c, 2) the course's earlier, later; (c, 3) the course; (c, 4) the answers; and which sea stands where -/
structure Gh where
  O : Addr → Option (Addr × Nat)
  S : Addr → Sea
def Gh.tag (g : Gh) (b : Addr) (t : Addr × Nat) : Gh := { g with O := fun x => if x = b then some t else g.O x }
def Gh.sea (g : Gh) (a : Addr) (s : Sea) : Gh := { g with S := fun x => if x = a then s else g.S x }
theorem Gh.tag_at {g : Gh} {b : Addr} {t : Addr × Nat} : (g.tag b t).O b = some t := if_pos rfl
theorem Gh.tag_ne {g : Gh} {b x : Addr} {t : Addr × Nat} (h : x ≠ b) : (g.tag b t).O x = g.O x := if_neg h
theorem Gh.sea_at {g : Gh} {a : Addr} {s : Sea} : (g.sea a s).S a = s := if_pos rfl
theorem Gh.sea_ne {g : Gh} {a x : Addr} {s : Sea} (h : x ≠ a) : (g.sea a s).S x = g.S x := if_neg h

section
variable {w : Cl} {g g' g1 : Gh} {H H' H1 H2 : Hp}
/-- a tagged thing is a list or the course -/
def Tg (w : Cl) (g : Gh) (H : Hp) : Prop := ∀ b t, g.O b = some t → (∃ xs, H b = some (.lst xs)) ∨ (∃ dx fs, H b = some (.ins w.K dx fs))
theorem Tg.none_of (T : Tg w g H) {a : Addr} {o : HO} (h : H a = some o) (h1 : ∀ xs, o ≠ .lst xs) (h2 : ∀ dx fs, o ≠ .ins w.K dx fs) : g.O a = none := by
  cases e : g.O a with
  | none => rfl
  | some t =>
    rcases T a t e with ⟨xs, q⟩ | ⟨dx, fs, q⟩
    · rw [h] at q; exact absurd (Option.some.inj q) (h1 xs)
    · rw [h] at q; exact absurd (Option.some.inj q) (h2 dx fs)
theorem Tg.box (T : Tg w g H) {a : Addr} {b : Box} (h : BoxAt w.B H a b) : g.O a = none := by
  obtain ⟨dx, e⟩ := h
  exact T.none_of e (fun xs z => by cases z) (fun dx fs z => by injection z with z _ _; exact w.bk z)
theorem Tg.sea (T : Tg w g H) {a dx : Addr} {fs : List (Str × V)} (h : H a = some (.ins w.S dx fs)) : g.O a = none :=
  T.none_of h (fun xs z => by cases z) (fun dx fs z => by injection z with z _ _; exact w.sk z)
theorem Tg.new (T : Tg w g H) {a : Addr} (h : H a = none) : g.O a = none := by
  cases e : g.O a with
  | none => rfl
  | some t =>
    rcases T a t e with ⟨xs, q⟩ | ⟨dx, fs, q⟩
    · rw [h] at q; cases q
    · rw [h] at q; cases q
theorem Tg.same (T : Tg w g H) (s : Same H H') : Tg w g H' := fun b t e => by
  rcases T b t e with ⟨xs, q⟩ | ⟨dx, fs, q⟩
  · exact .inl ⟨xs, s _ _ q⟩
  · exact .inr ⟨dx, fs, s _ _ q⟩
theorem Tg.tag (T : Tg w g H) {b : Addr} {t : Addr × Nat} (h : (∃ xs, H b = some (.lst xs)) ∨ (∃ dx fs, H b = some (.ins w.K dx fs))) : Tg w (g.tag b t) H := fun x u e => by
  by_cases hx : x = b
  · subst hx; exact h
  · rw [Gh.tag_ne hx] at e; exact T x u e
theorem Tg.lst (T : Tg w g H) {b : Addr} {xs ys : List V} (h : H b = some (.lst xs)) : Tg w g (upd H b (.lst ys)) := fun x u e => by
  by_cases hx : x = b
  · subst hx; exact .inl ⟨ys, upd_same⟩
  · rw [upd_ne hx]; exact T x u e
theorem Tg.ins (T : Tg w g H) {b dx : Addr} {fs fs' : List (Str × V)} (h : H b = some (.ins w.K dx fs)) : Tg w g (upd H b (.ins w.K dx fs')) := fun x u e => by
  by_cases hx : x = b
  · subst hx; exact .inr ⟨dx, fs', upd_same⟩
  · rw [upd_ne hx]; exact T x u e

/-- all but what has such a tag stays -/
def Kpt (X : Addr × Nat → Prop) (g : Gh) (H H' : Hp) : Prop := ∀ b o, H b = some o → (∀ t, g.O b = some t → ¬ X t) → H' b = some o
theorem Kpt.free {X : Addr × Nat → Prop} (k : Kpt X g H H') {b : Addr} {o : HO} (h : H b = some o) (n : g.O b = none) : H' b = some o := k b o h fun t e => by rw [n] at e; cases e
theorem Kpt.of_same {X : Addr × Nat → Prop} (s : Same H H') : Kpt X g H H' := fun b o h _ => s b o h
theorem Kpt.box {X : Addr × Nat → Prop} (k : Kpt X g H H') (T : Tg w g H) {a : Addr} {b : Box} (h : BoxAt w.B H a b) : BoxAt w.B H' a b := by
  have n := T.box h
  obtain ⟨dx, e⟩ := h
  exact ⟨dx, k.free e n⟩
theorem Kpt.lst {X : Addr × Nat → Prop} (k : Kpt X g H H') (T : Tg w g H) {l : Addr} {bs : List Box} (n : g.O l = none) (h : LstAt w.B H l bs) : LstAt w.B H' l bs := by
  obtain ⟨as, e, r⟩ := h
  exact ⟨as, k.free e n, r.imp fun a b q => k.box T q⟩
/-- an untagged list of boxes -/
def LstO (w : Cl) (g : Gh) (H : Hp) (l : Addr) (bs : List Box) : Prop := g.O l = none ∧ LstAt w.B H l bs
theorem LstO.same {l : Addr} {bs : List Box} (h : LstO w g H l bs) (s : Same H H') : LstO w g H' l bs := ⟨h.1, h.2.same s⟩
theorem LstO.keep {X : Addr × Nat → Prop} {l : Addr} {bs : List Box} (h : LstO w g H l bs) (T : Tg w g H) (k : Kpt X g H H') : LstO w g H' l bs := ⟨h.1, k.lst T h.1 h.2⟩
theorem LstO.track {l : Addr} {bs : List Box} (h : LstO w g H l bs) : ∃ o, H l = some o := let ⟨_, e, _⟩ := h.2; ⟨_, e⟩
/-- the same things under another ghost -/
def Ag (g g' : Gh) (H : Hp) : Prop := ∀ b o, H b = some o → g'.O b = g.O b ∧ g'.S b = g.S b
theorem LstO.ghost {l : Addr} {bs : List Box} (h : LstO w g H l bs) (e : Ag g g' H) : LstO w g' H l bs := by
  obtain ⟨o, q⟩ := h.track
  exact ⟨by rw [(e l o q).1]; exact h.1, h.2⟩

/-- the sea s stands at a -/
structure SeaP (w : Cl) (g : Gh) (H : Hp) (a : Addr) (s : Sea) (dx lb ll cu wi p : Addr) : Prop where
  at_ : H a = some (.ins w.S dx (sf s.hour lb ll cu wi s.seen s.lo s.hi p))
  bx : LstO w g H lb s.boxes
  ld : LstO w g H ll s.lands
  cu : BoxAt w.B H cu s.current
  wi : BoxAt w.B H wi s.wind
  tg : g.O p = some (a, 0)
  ah : ∃ ls : List Addr, H p = some (.lst (ls.map V.ref)) ∧ ls.length ≤ 49 ∧ ∀ (i : Nat) (l : Addr), ls[i]? = some l → LstO w g H l (hoursOn s i s.boxes)
def SeaAt (w : Cl) (g : Gh) (H : Hp) (a : Addr) (s : Sea) : Prop := ∃ dx lb ll cu wi p, SeaP w g H a s dx lb ll cu wi p
theorem SeaP.keep {X : Addr × Nat → Prop} {a dx lb ll cu wi p : Addr} {s : Sea} (h : SeaP w g H a s dx lb ll cu wi p) (T : Tg w g H) (k : Kpt X g H H') (nx : ¬ X (a, 0)) : SeaP w g H' a s dx lb ll cu wi p := by
  obtain ⟨ls, e, l, q⟩ := h.ah
  refine ⟨k.free h.at_ (T.sea h.at_), h.bx.keep T k, h.ld.keep T k, k.box T h.cu, k.box T h.wi, h.tg, ls, k p _ e (fun t z => ?_), l, fun i x hx => (q i x hx).keep T k⟩
  rw [h.tg] at z
  rw [← Option.some.inj z]
  exact nx
theorem SeaP.same {a dx lb ll cu wi p : Addr} {s : Sea} (h : SeaP w g H a s dx lb ll cu wi p) (k : Same H H') : SeaP w g H' a s dx lb ll cu wi p := by
  obtain ⟨ls, e, l, q⟩ := h.ah
  exact ⟨k _ _ h.at_, h.bx.same k, h.ld.same k, h.cu.same k, h.wi.same k, h.tg, ls, k _ _ e, l, fun i x hx => (q i x hx).same k⟩
theorem SeaP.ghost {a dx lb ll cu wi p : Addr} {s : Sea} (h : SeaP w g H a s dx lb ll cu wi p) (e : Ag g g' H) : SeaP w g' H a s dx lb ll cu wi p := by
  obtain ⟨ls, h1, l, q⟩ := h.ah
  exact ⟨h.at_, h.bx.ghost e, h.ld.ghost e, h.cu, h.wi, by rw [(e p _ h1).1]; exact h.tg, ls, h1, l, fun i x hx => (q i x hx).ghost e⟩
theorem SeaAt.keep {X : Addr × Nat → Prop} {a : Addr} {s : Sea} (h : SeaAt w g H a s) (T : Tg w g H) (k : Kpt X g H H') (nx : ¬ X (a, 0)) : SeaAt w g H' a s := let ⟨dx, lb, ll, cu, wi, p, q⟩ := h; ⟨dx, lb, ll, cu, wi, p, q.keep T k nx⟩
theorem SeaAt.same {a : Addr} {s : Sea} (h : SeaAt w g H a s) (k : Same H H') : SeaAt w g H' a s := let ⟨dx, lb, ll, cu, wi, p, q⟩ := h; ⟨dx, lb, ll, cu, wi, p, q.same k⟩
theorem SeaAt.ghost {a : Addr} {s : Sea} (h : SeaAt w g H a s) (e : Ag g g' H) : SeaAt w g' H a s := let ⟨dx, lb, ll, cu, wi, p, q⟩ := h; ⟨dx, lb, ll, cu, wi, p, q.ghost e⟩
theorem SeaAt.track {a : Addr} {s : Sea} (h : SeaAt w g H a s) : ∃ o, H a = some o := let ⟨_, _, _, _, _, _, q⟩ := h; ⟨_, q.at_⟩

/-- the course at c, as the desk d -/
structure CrsP (w : Cl) (g : Gh) (H : Hp) (c : Addr) (d : Desk) (dx a le ll : Addr) (ap af : List Addr) : Prop where
  tg : Tg w g H
  at_ : H c = some (.ins w.K dx (cf a le ll))
  tc : g.O c = some (c, 3)
  te : g.O le = some (c, 1)
  tl : g.O ll = some (c, 2)
  er : H le = some (.lst (ap.reverse.map V.ref))
  la : H ll = some (.lst (af.reverse.map V.ref))
  now : d.now = g.S a
  past : d.past = ap.map g.S
  fut : d.future = af.map g.S
  sa : SeaAt w g H a (g.S a)
  sp : ∀ x ∈ ap, SeaAt w g H x (g.S x)
  sl : ∀ x ∈ af, SeaAt w g H x (g.S x)
def Crs (w : Cl) (g : Gh) (H : Hp) (c : Addr) (d : Desk) : Prop := ∃ dx a le ll ap af, CrsP w g H c d dx a le ll ap af
theorem Crs.tg {c : Addr} {d : Desk} (h : Crs w g H c d) : Tg w g H := let ⟨_, _, _, _, _, _, q⟩ := h; q.tg
theorem CrsP.same {c dx a le ll : Addr} {d : Desk} {ap af : List Addr} (h : CrsP w g H c d dx a le ll ap af) (k : Same H H') : CrsP w g H' c d dx a le ll ap af :=
  ⟨h.tg.same k, k _ _ h.at_, h.tc, h.te, h.tl, k _ _ h.er, k _ _ h.la, h.now, h.past, h.fut, h.sa.same k, fun x hx => (h.sp x hx).same k, fun x hx => (h.sl x hx).same k⟩
theorem Crs.same {c : Addr} {d : Desk} (h : Crs w g H c d) (k : Same H H') : Crs w g H' c d := let ⟨dx, a, le, ll, ap, af, q⟩ := h; ⟨dx, a, le, ll, ap, af, q.same k⟩
theorem map_ghost {l : List Addr} (h : ∀ x ∈ l, g'.S x = g.S x) : l.map g'.S = l.map g.S := List.map_congr_left h
theorem CrsP.ghost {c dx a le ll : Addr} {d : Desk} {ap af : List Addr} (h : CrsP w g H c d dx a le ll ap af) (e : Ag g g' H) (T : Tg w g' H) : CrsP w g' H c d dx a le ll ap af := by
  have q : ∀ x, SeaAt w g H x (g.S x) → g'.S x = g.S x ∧ SeaAt w g' H x (g'.S x) := fun x hx => by
    obtain ⟨o, hxo⟩ := hx.track
    have e1 := (e x o hxo).2
    exact ⟨e1, by rw [e1]; exact hx.ghost e⟩
  refine ⟨T, h.at_, by rw [(e _ _ h.at_).1]; exact h.tc, by rw [(e _ _ h.er).1]; exact h.te, by rw [(e _ _ h.la).1]; exact h.tl, h.er, h.la, ?_, ?_, ?_, (q a h.sa).2, fun x hx => (q x (h.sp x hx)).2, fun x hx => (q x (h.sl x hx)).2⟩
  · rw [(q a h.sa).1]; exact h.now
  · rw [map_ghost fun x hx => (q x (h.sp x hx)).1]; exact h.past
  · rw [map_ghost fun x hx => (q x (h.sl x hx)).1]; exact h.fut

/-- what a call may do: nothing but the course's own things changes -/
structure Stp (g g' : Gh) (H H' : Hp) : Prop where
  o : ∀ b u, H b = some u → g'.O b = g.O b
  t : ∀ b u, H b = some u → ∃ u', H' b = some u'
  k : ∀ b u, H b = some u → (∀ t, g.O b = some t → t.2 = 4) → H' b = some u
theorem Stp.trans (a : Stp g g1 H H1) (b : Stp g1 g' H1 H2) : Stp g g' H H2 where
  o := fun x u h => by
    obtain ⟨u', h'⟩ := a.t x u h
    rw [b.o x u' h', a.o x u h]
  t := fun x u h => let ⟨u', h'⟩ := a.t x u h; b.t x u' h'
  k := fun x u h n => b.k x u (a.k x u h n) fun t e => n t (by rw [← a.o x u h]; exact e)
theorem Stp.same (s : Same H H') : Stp g g H H' := ⟨fun _ _ _ => rfl, fun b u h => ⟨u, s b u h⟩, fun b u h _ => s b u h⟩
theorem Stp.refl : Stp g g H H := Stp.same (Same.refl H)
theorem Stp.free (s : Stp g g' H H') {b : Addr} {u : HO} (h : H b = some u) (n : g.O b = none) : H' b = some u := s.k b u h fun t e => by rw [n] at e; cases e
theorem Stp.box (s : Stp g g' H H') (T : Tg w g H) {a : Addr} {b : Box} (h : BoxAt w.B H a b) : BoxAt w.B H' a b := by
  have n := T.box h
  obtain ⟨dx, e⟩ := h
  exact ⟨dx, s.free e n⟩

/-- what looking ahead of the sea at a may do -/
structure Aft (w : Cl) (g : Gh) (a : Addr) (H H' : Hp) : Prop where
  tg : Tg w g H'
  t : ∀ b u, H b = some u → ∃ u', H' b = some u'
  k : Kpt (fun t => t = (a, 0)) g H H'
  sea : SeaAt w g H' a (g.S a)
theorem Aft.stp {a : Addr} (h : Aft w g a H H') : Stp g g H H' := ⟨fun _ _ _ => rfl, h.t, fun b u e n => h.k b u e fun t ht z => by
  have := n t ht
  rw [z] at this
  cases this⟩
theorem Aft.other {a x : Addr} (h : Aft w g a H H') (T : Tg w g H) (hx : SeaAt w g H x (g.S x)) : SeaAt w g H' x (g.S x) := by
  by_cases e : x = a
  · subst e; exact h.sea
  · exact hx.keep T h.k fun z => e (by injection z)
theorem CrsP.aft {c dx a le ll x : Addr} {d : Desk} {ap af : List Addr} (h : CrsP w g H c d dx a le ll ap af) (q : Aft w g x H H') : CrsP w g H' c d dx a le ll ap af := by
  have n : ∀ b o n, H b = some o → g.O b = some (c, n + 1) → H' b = some o := fun b o n e t => q.k b o e fun t' e' z => by
    rw [t] at e'
    have := Option.some.inj e'
    rw [z] at this
    injection this with _ z
    cases z
  exact ⟨q.tg, n _ _ 2 h.at_ h.tc, h.tc, h.te, h.tl, n _ _ 0 h.er h.te, n _ _ 1 h.la h.tl, h.now, h.past, h.fut, q.other h.tg h.sa, fun y hy => q.other h.tg (h.sp y hy), fun y hy => q.other h.tg (h.sl y hy)⟩

/-- a new sea beside the course -/
theorem CrsP.newSea {c dx a le ll : Addr} {d : Desk} {ap af : List Addr} {a' dx' lb' ll' cu' wi' p' : Addr} {s' : Sea} (h : CrsP w g H c d dx a le ll ap af) (sm : Same H H2) (na : H a' = none) (np : H p' = none)
    (ea : H2 a' = some (.ins w.S dx' (sf s'.hour lb' ll' cu' wi' s'.seen s'.lo s'.hi p'))) (ep : H2 p' = some (.lst []))
    (hb : LstO w g H2 lb' s'.boxes) (nb : lb' ≠ p') (hl : LstO w g H2 ll' s'.lands) (nl : ll' ≠ p') (hc : BoxAt w.B H2 cu' s'.current) (hw : BoxAt w.B H2 wi' s'.wind) :
    CrsP w ((g.tag p' (a', 0)).sea a' s') H2 c d dx a le ll ap af ∧ SeaAt w ((g.tag p' (a', 0)).sea a' s') H2 a' s' ∧ Stp g ((g.tag p' (a', 0)).sea a' s') H H2 := by
  have ag : Ag g ((g.tag p' (a', 0)).sea a' s') H := fun b o e => ⟨Gh.tag_ne (g := g) (ne_of_none e np), Gh.sea_ne (g := g.tag p' (a', 0)) (ne_of_none e na)⟩
  have T2 : Tg w ((g.tag p' (a', 0)).sea a' s') H2 := Tg.tag (h.tg.same sm) (.inl ⟨_, ep⟩)
  have T1 : Tg w ((g.tag p' (a', 0)).sea a' s') H2 := T2
  have lo : ∀ {l : Addr} {bs : List Box}, LstO w g H2 l bs → l ≠ p' → LstO w ((g.tag p' (a', 0)).sea a' s') H2 l bs := fun q n => ⟨by
    show (g.tag p' (a', 0)).O _ = none
    rw [Gh.tag_ne n]; exact q.1, q.2⟩
  have q : ∀ x, SeaAt w g H x (g.S x) → ((g.tag p' (a', 0)).sea a' s').S x = g.S x ∧ SeaAt w ((g.tag p' (a', 0)).sea a' s') H2 x (((g.tag p' (a', 0)).sea a' s').S x) := fun x hx => by
    obtain ⟨o, hxo⟩ := hx.track
    have e1 := (ag x o hxo).2
    exact ⟨e1, by rw [e1]; exact (hx.ghost ag).same sm⟩
  refine ⟨⟨T1, sm _ _ h.at_, by rw [(ag _ _ h.at_).1]; exact h.tc, by rw [(ag _ _ h.er).1]; exact h.te, by rw [(ag _ _ h.la).1]; exact h.tl, sm _ _ h.er, sm _ _ h.la, ?_, ?_, ?_, (q a h.sa).2, fun x hx => (q x (h.sp x hx)).2, fun x hx => (q x (h.sl x hx)).2⟩, ?_, ?_⟩
  · rw [(q a h.sa).1]; exact h.now
  · rw [map_ghost fun x hx => (q x (h.sp x hx)).1]; exact h.past
  · rw [map_ghost fun x hx => (q x (h.sl x hx)).1]; exact h.fut
  · exact ⟨dx', lb', ll', cu', wi', p', ea, lo hb nb, lo hl nl, hc, hw, Gh.tag_at (g := g), [], ep, Nat.zero_le _, fun i l hi => by simp at hi⟩
  · exact ⟨fun b u e => (ag b u e).1, fun b u e => ⟨u, sm b u e⟩, fun b u e _ => sm b u e⟩
end
end Db
end
section
/-! The course's own moves on the heap. -/
set_option Elab.async false
set_option linter.all false
set_option maxRecDepth 100000
namespace Db
open PySem PySem.Spec PyProof.Rows L2
open Km444 (Box Sea Desk)
section
variable {w : Cl} {g g' g1 : Gh} {H H' H1 H2 Hf : Hp}
/-- only lists have tags that matter to a sea -/
def AgL (g g' : Gh) (H : Hp) : Prop := ∀ b xs, H b = some (.lst xs) → g'.O b = g.O b
theorem LstO.ghostL {l : Addr} {bs : List Box} (h : LstO w g H l bs) (e : AgL g g' H) : LstO w g' H l bs := by
  obtain ⟨as, q, r⟩ := h.2
  exact ⟨by rw [e l _ q]; exact h.1, h.2⟩
theorem SeaP.ghostL {a dx lb ll cu wi p : Addr} {s : Sea} (h : SeaP w g H a s dx lb ll cu wi p) (e : AgL g g' H) : SeaP w g' H a s dx lb ll cu wi p := by
  obtain ⟨ls, h1, l, q⟩ := h.ah
  exact ⟨h.at_, h.bx.ghostL e, h.ld.ghostL e, h.cu, h.wi, by rw [e p _ h1]; exact h.tg, ls, h1, l, fun i x hx => (q i x hx).ghostL e⟩
theorem BoxAt.off {c : Addr} {dx : Addr} {fs : List (Str × V)} (hc : H c = some (.ins w.K dx fs)) (kc : ∀ b o, H b = some o → b ≠ c → Hf b = some o) {a : Addr} {b : Box} (h : BoxAt w.B H a b) : BoxAt w.B Hf a b := by
  obtain ⟨dx', e⟩ := h
  exact ⟨dx', kc _ _ e (ne_of e hc (fun z => by injection z with z _ _; exact w.bk z))⟩
theorem LstO.off {c : Addr} {dx : Addr} {fs : List (Str × V)} (hc : H c = some (.ins w.K dx fs)) (kc : ∀ b o, H b = some o → b ≠ c → Hf b = some o) {l : Addr} {bs : List Box} (h : LstO w g H l bs) : LstO w g Hf l bs := by
  obtain ⟨n, as, e, r⟩ := h
  exact ⟨n, as, kc _ _ e (ne_of e hc (fun z => by cases z)), r.imp fun a b q => BoxAt.off hc kc q⟩
theorem SeaP.off {c dxc : Addr} {fs : List (Str × V)} (hc : H c = some (.ins w.K dxc fs)) (kc : ∀ b o, H b = some o → b ≠ c → Hf b = some o) {a dx lb ll cu wi p : Addr} {s : Sea} (h : SeaP w g H a s dx lb ll cu wi p) : SeaP w g Hf a s dx lb ll cu wi p := by
  obtain ⟨ls, h1, l, q⟩ := h.ah
  exact ⟨kc _ _ h.at_ (ne_of h.at_ hc (fun z => by injection z with z _ _; exact w.sk z)), h.bx.off hc kc, h.ld.off hc kc, BoxAt.off hc kc h.cu, BoxAt.off hc kc h.wi, h.tg, ls, kc _ _ h1 (ne_of h1 hc (fun z => by cases z)), l, fun i x hx => (q i x hx).off hc kc⟩

/-- the course with new lists -/
def gNew (g : Gh) (c le ll : Addr) : Gh := ((g.tag c (c, 3)).tag le (c, 1)).tag ll (c, 2)
theorem gNew_old {c le ll b : Addr} (h1 : b ≠ c) (h2 : b ≠ le) (h3 : b ≠ ll) : (gNew g c le ll).O b = g.O b := by
  unfold gNew
  rw [Gh.tag_ne h3, Gh.tag_ne h2, Gh.tag_ne h1]
theorem crs_mk {c dx a' le' ll' : Addr} {fs : List (Str × V)} {ap' : List Addr} (T : Tg w g H) (hc : H c = some (.ins w.K dx fs)) (kc : ∀ b o, H b = some o → b ≠ c → Hf b = some o) (ec : Hf c = some (.ins w.K dx (cf a' le' ll')))
    (ne : H le' = none) (el : Hf le' = some (.lst (ap'.reverse.map V.ref))) (nl : H ll' = none) (eL : Hf ll' = some (.lst [])) (nel : le' ≠ ll') (sa : SeaAt w g H a' (g.S a')) (sp : ∀ x ∈ ap', SeaAt w g H x (g.S x)) :
    CrsP w (gNew g c le' ll') Hf c ⟨g.S a', ap'.map g.S, []⟩ dx a' le' ll' ap' [] ∧ (∀ b u, H b = some u → b ≠ c → (gNew g c le' ll').O b = g.O b) := by
  have old : ∀ b u, H b = some u → b ≠ c → (gNew g c le' ll').O b = g.O b := fun b u e n => gNew_old n (ne_of_none e ne) (ne_of_none e nl)
  have agl : AgL g (gNew g c le' ll') H := fun b xs e => old b _ e (ne_of e hc (fun z => by cases z))
  have tr : ∀ x s, SeaAt w g H x s → SeaAt w (gNew g c le' ll') Hf x s := fun x s ⟨dx, lb, ll, cu, wi, p, q⟩ => ⟨dx, lb, ll, cu, wi, p, (q.ghostL agl).off hc kc⟩
  have nce : c ≠ le' := ne_of_none hc ne
  have ncl : c ≠ ll' := ne_of_none hc nl
  refine ⟨⟨fun b t e => ?_, ec, ?_, ?_, Gh.tag_at, el, eL, rfl, rfl, rfl, tr _ _ sa, fun x hx => tr _ _ (sp x hx), fun x hx => absurd hx List.not_mem_nil⟩, old⟩
  · by_cases h1 : b = c
    · subst h1; exact .inr ⟨_, _, ec⟩
    · by_cases h2 : b = le'
      · subst h2; exact .inl ⟨_, el⟩
      · by_cases h3 : b = ll'
        · subst h3; exact .inl ⟨_, eL⟩
        · rw [gNew_old h1 h2 h3] at e
          rcases T b t e with ⟨xs, q⟩ | ⟨dx, fs, q⟩
          · exact .inl ⟨xs, kc _ _ q h1⟩
          · exact .inr ⟨dx, fs, kc _ _ q h1⟩
  · unfold gNew
    rw [Gh.tag_ne ncl, Gh.tag_ne nce, Gh.tag_at]
  · unfold gNew
    rw [Gh.tag_ne nel, Gh.tag_at]

/-- a change -/
theorem CrsP.change {c dx a le ll a' le' ll' : Addr} {d : Desk} {ap af : List Addr} (h : CrsP w g H c d dx a le ll ap af) (sa : SeaAt w g H a' (g.S a')) (kc : ∀ b o, H b = some o → b ≠ c → Hf b = some o) (ec : Hf c = some (.ins w.K dx (cf a' le' ll')))
    (ne : H le' = none) (el : Hf le' = some (.lst (((a :: ap).take 20).reverse.map V.ref))) (nl : H ll' = none) (eL : Hf ll' = some (.lst [])) (nel : le' ≠ ll') :
    Crs w (gNew g c le' ll') Hf c (d.become (g.S a')) ∧ Stp g (gNew g c le' ll') H Hf := by
  obtain ⟨h1, h2⟩ := crs_mk h.tg h.at_ kc ec ne el nl eL nel sa fun x hx => by
    rcases List.mem_cons.mp (List.mem_of_mem_take hx) with rfl | q
    · exact h.sa
    · exact h.sp x q
  have tc : (gNew g c le' ll').O c = some (c, 3) := h1.tc
  refine ⟨⟨dx, a', le', ll', (a :: ap).take 20, [], ?_⟩, fun b u e => ?_, fun b u e => ?_, fun b u e n => ?_⟩
  · have e : d.become (g.S a') = ⟨g.S a', ((a :: ap).take 20).map g.S, []⟩ := by
      rw [become_eq, h.now, h.past, List.map_take, List.map_cons]
    rw [e]
    exact h1
  · by_cases hb : b = c
    · subst hb; rw [tc, h.tc]
    · exact h2 b u e hb
  · by_cases hb : b = c
    · subst hb; exact ⟨_, ec⟩
    · exact ⟨u, kc b u e hb⟩
  · refine kc b u e fun z => ?_
    subst z
    have := n _ h.tc
    cases this

def X3 (c : Addr) (t : Addr × Nat) : Prop := t.1 = c ∧ (t.2 = 1 ∨ t.2 = 2 ∨ t.2 = 3)
theorem CrsP.upd3 {c dx a le ll a' : Addr} {d : Desk} {ap af ap' af' : List Addr} (h : CrsP w g H c d dx a le ll ap af) (T' : Tg w g H') (k : ∀ b o, H b = some o → b ≠ c → b ≠ le → b ≠ ll → H' b = some o) (at' : H' c = some (.ins w.K dx (cf a' le ll)))
    (er' : H' le = some (.lst (ap'.reverse.map V.ref))) (la' : H' ll = some (.lst (af'.reverse.map V.ref))) (all : ∀ x, x = a' ∨ x ∈ ap' ∨ x ∈ af' → x = a ∨ x ∈ ap ∨ x ∈ af) :
    Crs w g H' c ⟨g.S a', ap'.map g.S, af'.map g.S⟩ ∧ Stp g g H H' := by
  have kp : Kpt (X3 c) g H H' := fun b o e n => by
    refine k b o e (fun z => ?_) (fun z => ?_) (fun z => ?_)
    · subst z; exact n _ h.tc ⟨rfl, .inr (.inr rfl)⟩
    · subst z; exact n _ h.te ⟨rfl, .inl rfl⟩
    · subst z; exact n _ h.tl ⟨rfl, .inr (.inl rfl)⟩
  have tr : ∀ x, x = a' ∨ x ∈ ap' ∨ x ∈ af' → SeaAt w g H' x (g.S x) := fun x hx => by
    have q : SeaAt w g H x (g.S x) := by
      rcases all x hx with rfl | q | q
      · exact h.sa
      · exact h.sp x q
      · exact h.sl x q
    exact q.keep h.tg kp fun z => by
      rcases z.2 with z | z | z <;> cases z
  refine ⟨⟨dx, a', le, ll, ap', af', T', at', h.tc, h.te, h.tl, er', la', rfl, rfl, rfl, tr _ (.inl rfl), fun x hx => tr x (.inr (.inl hx)), fun x hx => tr x (.inr (.inr hx))⟩, fun _ _ _ => rfl, fun b u e => ?_, fun b u e n => ?_⟩
  · by_cases h1 : b = c
    · subst h1; exact ⟨_, at'⟩
    · by_cases h2 : b = le
      · subst h2; exact ⟨_, er'⟩
      · by_cases h3 : b = ll
        · subst h3; exact ⟨_, la'⟩
        · exact ⟨u, k b u e h1 h2 h3⟩
  · refine k b u e (fun z => ?_) (fun z => ?_) (fun z => ?_)
    · subst z; have := n _ h.tc; cases this
    · subst z; have := n _ h.te; cases this
    · subst z; have := n _ h.tl; cases this
theorem CrsP.ne {c dx a le ll : Addr} {d : Desk} {ap af : List Addr} (h : CrsP w g H c d dx a le ll ap af) : c ≠ le ∧ c ≠ ll ∧ le ≠ ll := by
  refine ⟨fun z => ?_, fun z => ?_, fun z => ?_⟩
  · have := h.tc; rw [z, h.te] at this; injection this with this; injection this with _ z; cases z
  · have := h.tc; rw [z, h.tl] at this; injection this with this; injection this with _ z; cases z
  · have := h.te; rw [z, h.tl] at this; injection this with this; injection this with _ z; cases z
/-- taken back -/
theorem CrsP.back {c dx a le ll x : Addr} {d : Desk} {r af : List Addr} (h : CrsP w g H c d dx a le ll (x :: r) af) :
    Crs w g (upd (upd (upd H ll (.lst (af.reverse.map V.ref ++ [.ref a]))) le (.lst (r.reverse.map V.ref))) c (.ins w.K dx (cf x le ll))) c ⟨g.S x, r.map g.S, (a :: af).map g.S⟩ ∧
    Stp g g H (upd (upd (upd H ll (.lst (af.reverse.map V.ref ++ [.ref a]))) le (.lst (r.reverse.map V.ref))) c (.ins w.K dx (cf x le ll))) := by
  obtain ⟨n1, n2, n3⟩ := h.ne
  have T1 := h.tg.lst (ys := af.reverse.map V.ref ++ [.ref a]) h.la
  have T2 := T1.lst (b := le) (ys := r.reverse.map V.ref) (by rw [upd_ne n3]; exact h.er)
  have T3 := T2.ins (b := c) (dx := dx) (fs' := cf x le ll) (by rw [upd_ne n1, upd_ne n2]; exact h.at_)
  refine h.upd3 T3 (fun b o e m1 m2 m3 => by rw [upd_ne m1, upd_ne m2, upd_ne m3]; exact e) upd_same ?_ ?_ fun y hy => ?_
  · rw [upd_ne (Ne.symm n1), upd_same]
  · rw [upd_ne (Ne.symm n2), upd_ne (Ne.symm n3), upd_same, List.reverse_cons, List.map_append]; rfl
  · rcases hy with rfl | hy | hy
    · exact .inr (.inl List.mem_cons_self)
    · exact .inr (.inl (List.mem_cons_of_mem _ hy))
    · rcases List.mem_cons.mp hy with rfl | hy
      · exact .inl rfl
      · exact .inr (.inr hy)
/-- done again -/
theorem CrsP.again {c dx a le ll x : Addr} {d : Desk} {ap r : List Addr} (h : CrsP w g H c d dx a le ll ap (x :: r)) :
    Crs w g (upd (upd (upd H le (.lst (ap.reverse.map V.ref ++ [.ref a]))) ll (.lst (r.reverse.map V.ref))) c (.ins w.K dx (cf x le ll))) c ⟨g.S x, (a :: ap).map g.S, r.map g.S⟩ ∧
    Stp g g H (upd (upd (upd H le (.lst (ap.reverse.map V.ref ++ [.ref a]))) ll (.lst (r.reverse.map V.ref))) c (.ins w.K dx (cf x le ll))) := by
  obtain ⟨n1, n2, n3⟩ := h.ne
  have T1 := h.tg.lst (ys := ap.reverse.map V.ref ++ [.ref a]) h.er
  have T2 := T1.lst (b := ll) (ys := r.reverse.map V.ref) (by rw [upd_ne (Ne.symm n3)]; exact h.la)
  have T3 := T2.ins (b := c) (dx := dx) (fs' := cf x le ll) (by rw [upd_ne n2, upd_ne n1]; exact h.at_)
  refine h.upd3 T3 (fun b o e m1 m2 m3 => by rw [upd_ne m1, upd_ne m3, upd_ne m2]; exact e) upd_same ?_ ?_ fun y hy => ?_
  · rw [upd_ne (Ne.symm n1), upd_ne n3, upd_same, List.reverse_cons, List.map_append]; rfl
  · rw [upd_ne (Ne.symm n2), upd_same]
  · rcases hy with rfl | hy | hy
    · exact .inr (.inr List.mem_cons_self)
    · rcases List.mem_cons.mp hy with rfl | hy
      · exact .inl rfl
      · exact .inr (.inl hy)
    · exact .inr (.inr (List.mem_cons_of_mem _ hy))
end
end Db
end
section
/-! sea.py: one theorem a def. -/
set_option Elab.async false
set_option linter.all false
set_option maxRecDepth 100000
namespace Db
open PySem PySem.Spec PyProof.Rows L2
open Km444 (Box Sea Desk)

abbrev sLeast : Stmt := top 23
abbrev sMost : Stmt := top 24
abbrev sSeaInit : Stmt := inClass (top 25) 0
abbrev sCopied : Stmt := inClass (top 25) 1
abbrev sDrift : Stmt := inClass (top 25) 2
abbrev sAfter : Stmt := inClass (top 25) 3

structure SeaCls (K : PySem.W.Frag) (C : Addr) : Prop where
  cl : Cls K C
  hour : NoAttr K C "hour"
  boxes : NoAttr K C "boxes"
  lands : NoAttr K C "lands"
  current : NoAttr K C "current"
  wind : NoAttr K C "wind"
  seen : NoAttr K C "sightings"
  lo : NoAttr K C "lo"
  hi : NoAttr K C "hi"
  ahead : NoAttr K C "ahead"

/-- a method, all that a caller wants -/
structure Mth (P : Program) (w : World) (K : PySem.W.Frag) (mg : Str → Option Value) (base : Heap) (C : Addr) (k : Nat) (m : Str) (ps : List Str) (sp : Sp) : Prop where
  ex : ∃ (f : Addr) (fd : FuncData), Meth K C m f ∧ FnOk P w K mg base CX0 k f fd ps sp ∧ Binds K fd ps []
def tMth (C : Addr) (m : Str) (sp : Sp) (ta : TE) (t : TA) : TE := fun σ H Q => ta σ H fun x H1 => ∃ a dx fs, x = .ref a ∧ H1 a = some (.ins C dx fs) ∧ fs.lookup m = none ∧ t σ H1 fun vs H2 => sp (x :: vs) H2 Q E0
section
variable {X : Cx} {C : Addr} {k : Nat} {m : Str} {ps : List Str} {sp : Sp} {apos pos : Pos} {o e : Expr} {es : List Expr} {ta : TE} {t : TA}
theorem pe_mth {pl : Sem Bool} (M : Mth X.prog X.w X.K X.mg X.base C k m ps sp) (c : Cls X.K C) (he : PE X o ta) (hr : Room k X.A) (ha : PA X (e :: es) t)
    (hst : starEach (e :: es) X.env = (false, eval e X.env) :: starEach es X.env := by rfl) (hpl : (backTo pos (starEach es X.env)).any (·.1) = false := by rfl)
    (ht : eval (.Call (.Attribute o m apos) (e :: es) [] pos) X.env = (do
      let ov ← eval o X.env
      standAt apos.atName
      let (f, first) ← holding [ov] (getMethod ov m pl)
      callWith pos f first (backTo pos (starEach (e :: es) X.env)) (backToKw pos (keywordEach [] X.env))) := by rfl) :
    PE X (.Call (.Attribute o m apos) (e :: es) [] pos) (tMth C m sp ta t) := by
  obtain ⟨f, fd, hm, F, hb⟩ := M.ex
  refine pe_imp (pe_meth he c hm F hr hb .nil pass0 ha hst hpl ht) fun σ H Q h => ?_
  unfold tMeth
  simp only [List.append_nil]
  exact h
theorem pe_mth0 {pl : Sem Bool} (M : Mth X.prog X.w X.K X.mg X.base C k m ps sp) (c : Cls X.K C) (he : PE X o ta) (hr : Room k X.A)
    (ht : eval (.Call (.Attribute o m apos) [] [] pos) X.env = (do
      let ov ← eval o X.env
      standAt apos.atName
      let (f, first) ← holding [ov] (getMethod ov m pl)
      callWith pos f first (backTo pos (starEach [] X.env)) (backToKw pos (keywordEach [] X.env))) := by rfl) :
    PE X (.Call (.Attribute o m apos) [] [] pos) (tMth C m sp ta tNil) := by
  obtain ⟨f, fd, hm, F, hb⟩ := M.ex
  refine pe_imp (pe_meth0 he c hm F hr hb .nil pass0 ht) fun σ H Q h => ?_
  unfold tMeth
  simp only [List.append_nil]
  exact h
end

/-! ### promises -/
abbrev in64 (a : Int) : Prop := -(2 ^ 64) < a ∧ a < 2 ^ 64
def spLeast : Sp := fun vs H Q _ => ∃ a b lo hi, vs = [.int a, .int b, .int lo, .int hi] ∧ in64 a ∧ in64 b ∧ Q (.int (lowT a b lo hi)) H
def spMost : Sp := fun vs H Q _ => ∃ a b lo hi, vs = [.int a, .int b, .int lo, .int hi] ∧ in64 a ∧ in64 b ∧ Q (.int (highT a b lo hi)) H
def spSeaInit (W : Cl) : Sp := fun vs H Q _ => ∃ a dx lb lo hi, vs = [.ref a, .ref lb, .int lo, .int hi] ∧ H a = some (.ins W.S dx []) ∧
  ∀ (H' : Hp) (ll cu wi p : Addr), (∀ b o, H b = some o → b ≠ a → H' b = some o) → H' a = some (.ins W.S dx (sf 0 lb ll cu wi 0 lo hi p)) → H ll = none → H' ll = some (.lst []) → BoxAt W.B H' cu Km444.zero → BoxAt W.B H' wi Km444.zero →
    H p = none → H' p = some (.lst []) → ll ≠ p → Q .non H'
/-- a new sea comes, nothing else changes -/
def NewSea (W : Cl) (H : Hp) (lb : Addr) (lo hi : Int) (Q : VK) : Prop := ∀ (H' : Hp) (a dx ll cu wi p : Addr), Same H H' → H a = none → H' a = some (.ins W.S dx (sf 0 lb ll cu wi 0 lo hi p)) → H ll = none → H' ll = some (.lst []) →
  BoxAt W.B H' cu Km444.zero → BoxAt W.B H' wi Km444.zero → H p = none → H' p = some (.lst []) → ll ≠ p → Q (.ref a) H'
abbrev seaPs : List Str := ["self", "boxes", "lo", "hi"]
structure SeaMk (P : Program) (w : World) (K : PySem.W.Frag) (mg : Str → Option Value) (base : Heap) (W : Cl) : Prop where
  ex : ∃ (f : Addr) (fd : FuncData), Mk K W.S f ∧ FnOk P w K mg base CX0 3 f fd seaPs (spSeaInit W) ∧ Binds K fd seaPs []
  mg : mg "Sea" = some (.ref W.S)
theorem upd_none {H : Hp} {a b : Addr} {o : HO} (h : (upd H a o) b = none) : H b = none := by
  by_cases e : b = a
  · subst e; rw [upd_same] at h; cases h
  · rw [upd_ne e] at h; exact h
section
variable {X : Cx} {W : Cl} {p pos : Pos} {e : Expr} {es : List Expr} {t : TA}
def tSea (W : Cl) (t : TA) : TE := fun σ H Q => t σ H fun vs H1 => ∃ lb lo hi, vs = [.ref lb, .int lo, .int hi] ∧ NewSea W H1 lb lo hi Q
theorem pe_sea (M : SeaMk X.prog X.w X.K X.mg X.base W) (hr : Room 4 X.A) (ha : PA X (e :: es) t) (hg : Gl X "Sea" := by rfl) (he : starEach (e :: es) X.env = (false, eval e X.env) :: starEach es X.env := by rfl) (hpl : (backTo pos (starEach es X.env)).any (·.1) = false := by rfl) :
    PE X (.Call (.Name "Sea" p) (e :: es) [] pos) (tSea W t) := by
  obtain ⟨f, fd, M1, F, hb⟩ := M.ex
  intro pins s σ H Q I h
  refine wpAny_Call_Name_kw (ld_glob I hg M.mg ?_ (by decide))
  refine PySem.W.callWith_K (h₀ := X.base) I.ok.mod.kin M1.kp (thn (ha pos pins s σ H _ I h) fun us s1 ⟨vs, H1, I1, r, lb, lo, hi, ev, q⟩ => ⟨I1.kIn, ?_⟩) he hpl
  subst ev
  refine run_make M1 F hr hb .nil pass0 I1 r fun x dx nx nd hne => ?_
  exact ⟨x, dx, lb, lo, hi, rfl, upd_same, fun H' ll cu wi p off at_ nl el hcu hwi np ep nlp => ⟨rfl, q H' x dx ll cu wi p (Same.made nx nd off) nx at_ (upd_none (upd_none nl)) el hcu hwi (upd_none (upd_none np)) ep nlp⟩⟩
end

/-! ### an object while it is made -/
structure Off (H Hx : Hp) (a : Addr) (o : HO) : Prop where
  off : ∀ b u, H b = some u → b ≠ a → Hx b = some u
  at_ : Hx a = some o
section
variable {H Hx Hy : Hp} {a : Addr} {o o' : HO}
theorem Off.set (h : Off H Hx a o) : Off H (upd Hx a o') a o' := ⟨fun b u e n => by rw [upd_ne n]; exact h.off b u e n, upd_same⟩
theorem Off.same (h : Off H Hx a o) (s : Same Hx Hy) : Off H Hy a o := ⟨fun b u e n => s _ _ (h.off b u e n), s _ _ h.at_⟩
theorem Off.free (h : Off H Hx a o) {l : Addr} (n : Hx l = none) : H l = none := by
  cases e : H l with
  | none => rfl
  | some u =>
    by_cases q : l = a
    · subst q; rw [h.at_] at n; cases n
    · rw [h.off l u e q] at n; cases n
end
theorem BoxAt.updI {W : Cl} {H : Hp} {a dx c : Addr} {fs : List (Str × V)} {b : Box} {o : HO} (h : BoxAt W.B H c b) (ha : H a = some (.ins W.S dx fs)) : BoxAt W.B (L2.upd H a o) c b := let ⟨dx, e⟩ := h; ⟨dx, by rw [upd_ne (ne_of e ha (fun z => by injection z with z _ _; exact W.bs z))]; exact e⟩
theorem lst_updI {H : Hp} {C a dx l : Addr} {fs : List (Str × V)} {xs : List V} {o : HO} (h : H l = some (.lst xs)) (ha : H a = some (.ins C dx fs)) : (upd H a o) l = some (.lst xs) := by rw [upd_ne (ne_of h ha (fun z => by cases z))]; exact h

section
variable {P : Program} {w : World} {K : PySem.W.Frag} {mg : Str → Option Value} {base : Heap} {W : Cl}

theorem scLeast : FnScope ["low", "high", "lo", "hi"] ["low", "high", "lo", "hi"] (defScope sLeast) := ⟨rfl, rfl, rfl, by decide +kernel, rfl, by decide +kernel, by decide +kernel⟩
theorem ok_least {f : Addr} {fd : FuncData} (F : Fun K "least_taken" "least_taken" sLeast f fd) (B : Blt mg) : FnOk P w K mg base CX0 1 f fd ["low", "high", "lo", "hi"] spLeast := by
  refine F.ok scLeast (fun vs H Q E h => ?_) (fun cdv A outer s H vs Q E hr h => ?_)
  · obtain ⟨a, b, lo, hi, rfl, _⟩ := h
    rfl
  · obtain ⟨a, b, lo, hi, rfl, ha, hb, k⟩ := h
    refine ⟨_, pss_one (ps_ret (pe_op op_fdiv (pe_callB (cmin4 rfl) rfl B.min boot_min (pa_cons (pe_op op_mul (pv 0) (pv 2)) (pa_cons (pe_op op_mul (pv 0) (pv 3)) (pa_cons (pe_op op_mul (pv 1) (pv 2)) (pa_cons (pe_op op_mul (pv 1) (pv 3)) pa_nil))))) pe_int)), ?_⟩
    exact ⟨_, rfl, _, rfl, _, _, rfl, rfl, .inl ha, _, rfl, _, rfl, _, _, rfl, rfl, .inl ha, _, rfl, _, rfl, _, _, rfl, rfl, .inl hb, _, rfl, _, rfl, _, _, rfl, rfl, .inl hb, _, _, _, _, rfl, _, _, rfl, rfl, ⟨by decide, by decide⟩, k⟩
theorem scMost : FnScope ["low", "high", "lo", "hi"] ["low", "high", "lo", "hi"] (defScope sMost) := ⟨rfl, rfl, rfl, by decide +kernel, rfl, by decide +kernel, by decide +kernel⟩
theorem ok_most {f : Addr} {fd : FuncData} (F : Fun K "most_taken" "most_taken" sMost f fd) (B : Blt mg) : FnOk P w K mg base CX0 1 f fd ["low", "high", "lo", "hi"] spMost := by
  refine F.ok scMost (fun vs H Q E h => ?_) (fun cdv A outer s H vs Q E hr h => ?_)
  · obtain ⟨a, b, lo, hi, rfl, _⟩ := h
    rfl
  · obtain ⟨a, b, lo, hi, rfl, ha, hb, k⟩ := h
    refine ⟨_, pss_one (ps_ret (pe_un un_neg (pe_op op_fdiv (pe_un un_neg (pe_callB (cmax4 rfl) rfl B.max boot_max (pa_cons (pe_op op_mul (pv 0) (pv 2)) (pa_cons (pe_op op_mul (pv 0) (pv 3)) (pa_cons (pe_op op_mul (pv 1) (pv 2)) (pa_cons (pe_op op_mul (pv 1) (pv 3)) pa_nil)))))) pe_int))), ?_⟩
    exact ⟨_, rfl, _, rfl, _, _, rfl, rfl, .inl ha, _, rfl, _, rfl, _, _, rfl, rfl, .inl ha, _, rfl, _, rfl, _, _, rfl, rfl, .inl hb, _, rfl, _, rfl, _, _, rfl, rfl, .inl hb, _, _, _, _, rfl, _, rfl, _, _, rfl, rfl, ⟨by decide, by decide⟩, _, rfl, k⟩

theorem scSeaInit : FnScope seaPs seaPs (defScope sSeaInit) := ⟨rfl, rfl, rfl, by decide +kernel, rfl, by decide +kernel, by decide +kernel⟩
theorem ok_seaInit {f : Addr} {fd : FuncData} (F : Fun K "__init__" "Sea.__init__" sSeaInit f fd) (T : SeaCls K W.S) (M : BoxMk P w K mg base W.B) : FnOk P w K mg base CX0 3 f fd seaPs (spSeaInit W) := by
  refine F.ok scSeaInit (fun vs H Q E h => ?_) (fun cdv A outer s H vs Q E hr h => ?_)
  · obtain ⟨a, dx, lb, lo, hi, rfl, _⟩ := h
    rfl
  · obtain ⟨a, dx, lb, lo, hi, rfl, ha, k⟩ := h
    refine ⟨_, pss_cons (ps_fld (pv 0) pe_int rfl) (pss_cons (ps_fld (pv 0) (pv 1) rfl) (pss_cons (ps_fld (pv 0) (pe_lst pa_nil) rfl)
      (pss_cons (ps_fld (pv 0) (pe_box M hr (pa_cons pe_int (pa_cons pe_int (pa_cons pe_int (pa_cons pe_int pa_nil))))) rfl) (pss_cons (ps_fld (pv 0) (pe_box M hr (pa_cons pe_int (pa_cons pe_int (pa_cons pe_int (pa_cons pe_int pa_nil))))) rfl)
      (pss_cons (ps_fld (pv 0) pe_int rfl) (pss_cons (ps_fld (pv 0) (pv 2) rfl) (pss_cons (ps_fld (pv 0) (pv 3) rfl) (pss_one (ps_fld (pv 0) (pe_lst pa_nil) rfl))))))))), ?_⟩
    have O0 : Off H H a (.ins W.S dx []) := ⟨fun _ _ e _ => e, ha⟩
    refine ⟨_, rfl, a, W.S, dx, [], rfl, ha, T.cl, T.hour, (by decide), ?_⟩
    have O1 : Off H _ a (.ins W.S dx [("hour", .int 0)]) := O0.set
    refine ⟨_, rfl, _, rfl, a, W.S, dx, _, rfl, O1.at_, T.cl, T.boxes, (by show 1 < 1000; decide), ?_⟩
    have O2 : Off H _ a (.ins W.S dx [("hour", .int 0), ("boxes", .ref lb)]) := O1.set
    refine ⟨Nat.zero_le _, fun ll hll => ?_⟩
    have nll := O2.free hll
    have O3 := O2.same (same_new (o := .lst []) hll)
    have hl3 : (upd _ ll (.lst [])) ll = some (HO.lst []) := upd_same (H := upd (upd H a (.ins W.S dx [("hour", .int 0)])) a (.ins W.S dx [("hour", .int 0), ("boxes", .ref lb)]))
    refine ⟨_, rfl, a, W.S, dx, _, rfl, O3.at_, T.cl, T.lands, (by show 2 < 1000; decide), ?_⟩
    have hl4 := lst_updI (o := .ins W.S dx [("hour", .int 0), ("boxes", .ref lb), ("lands", .ref ll)]) hl3 O3.at_
    have O4 : Off H _ a (.ins W.S dx [("hour", .int 0), ("boxes", .ref lb), ("lands", .ref ll)]) := O3.set
    refine ⟨_, _, _, _, rfl, fun H5 cu s5 hcu => ?_⟩
    have O5 := O4.same s5
    have hl5 := s5 _ _ hl4
    refine ⟨_, rfl, a, W.S, dx, _, rfl, O5.at_, T.cl, T.current, (by show 3 < 1000; decide), ?_⟩
    have hl6 := lst_updI (o := .ins W.S dx [("hour", .int 0), ("boxes", .ref lb), ("lands", .ref ll), ("current", .ref cu)]) hl5 O5.at_
    have hcu6 : BoxAt W.B (upd H5 a (.ins W.S dx [("hour", .int 0), ("boxes", .ref lb), ("lands", .ref ll), ("current", .ref cu)])) cu ⟨0, 0, 0, 0⟩ := hcu.updI O5.at_
    have O6 : Off H _ a (.ins W.S dx [("hour", .int 0), ("boxes", .ref lb), ("lands", .ref ll), ("current", .ref cu)]) := O5.set
    refine ⟨_, _, _, _, rfl, fun H7 wi s7 hwi => ?_⟩
    have O7 := O6.same s7
    have hl7 := s7 _ _ hl6
    have hcu7 := hcu6.same s7
    refine ⟨_, rfl, a, W.S, dx, _, rfl, O7.at_, T.cl, T.wind, (by show 4 < 1000; decide), ?_⟩
    have hl8 := lst_updI (o := .ins W.S dx [("hour", .int 0), ("boxes", .ref lb), ("lands", .ref ll), ("current", .ref cu), ("wind", .ref wi)]) hl7 O7.at_
    have hcu8 : BoxAt W.B (upd H7 a (.ins W.S dx [("hour", .int 0), ("boxes", .ref lb), ("lands", .ref ll), ("current", .ref cu), ("wind", .ref wi)])) cu ⟨0, 0, 0, 0⟩ := hcu7.updI O7.at_
    have hwi8 : BoxAt W.B (upd H7 a (.ins W.S dx [("hour", .int 0), ("boxes", .ref lb), ("lands", .ref ll), ("current", .ref cu), ("wind", .ref wi)])) wi ⟨0, 0, 0, 0⟩ := hwi.updI O7.at_
    have O8 : Off H (upd H7 a (.ins W.S dx [("hour", .int 0), ("boxes", .ref lb), ("lands", .ref ll), ("current", .ref cu), ("wind", .ref wi)])) a (.ins W.S dx [("hour", .int 0), ("boxes", .ref lb), ("lands", .ref ll), ("current", .ref cu), ("wind", .ref wi)]) := O7.set
    refine ⟨_, rfl, a, W.S, dx, _, rfl, O8.at_, T.cl, T.seen, (by show 5 < 1000; decide), ?_⟩
    have O9 : Off H _ a (.ins W.S dx [("hour", .int 0), ("boxes", .ref lb), ("lands", .ref ll), ("current", .ref cu), ("wind", .ref wi), ("sightings", .int 0)]) := O8.set
    have hl9 := lst_updI (o := .ins W.S dx [("hour", .int 0), ("boxes", .ref lb), ("lands", .ref ll), ("current", .ref cu), ("wind", .ref wi), ("sightings", .int 0)]) hl8 O8.at_
    refine ⟨_, rfl, _, rfl, a, W.S, dx, _, rfl, O9.at_, T.cl, T.lo, (by show 6 < 1000; decide), ?_⟩
    have O10 : Off H _ a (.ins W.S dx [("hour", .int 0), ("boxes", .ref lb), ("lands", .ref ll), ("current", .ref cu), ("wind", .ref wi), ("sightings", .int 0), ("lo", .int lo)]) := O9.set
    have hl10 := lst_updI (o := .ins W.S dx [("hour", .int 0), ("boxes", .ref lb), ("lands", .ref ll), ("current", .ref cu), ("wind", .ref wi), ("sightings", .int 0), ("lo", .int lo)]) hl9 O9.at_
    refine ⟨_, rfl, _, rfl, a, W.S, dx, _, rfl, O10.at_, T.cl, T.hi, (by show 7 < 1000; decide), ?_⟩
    have O11 : Off H _ a (.ins W.S dx [("hour", .int 0), ("boxes", .ref lb), ("lands", .ref ll), ("current", .ref cu), ("wind", .ref wi), ("sightings", .int 0), ("lo", .int lo), ("hi", .int hi)]) := O10.set
    have hl11 := lst_updI (o := .ins W.S dx [("hour", .int 0), ("boxes", .ref lb), ("lands", .ref ll), ("current", .ref cu), ("wind", .ref wi), ("sightings", .int 0), ("lo", .int lo), ("hi", .int hi)]) hl10 O10.at_
    have hcu11 := ((hcu8.updI (o := .ins W.S dx [("hour", .int 0), ("boxes", .ref lb), ("lands", .ref ll), ("current", .ref cu), ("wind", .ref wi), ("sightings", .int 0)]) O8.at_).updI (o := .ins W.S dx [("hour", .int 0), ("boxes", .ref lb), ("lands", .ref ll), ("current", .ref cu), ("wind", .ref wi), ("sightings", .int 0), ("lo", .int lo)]) O9.at_).updI (o := .ins W.S dx [("hour", .int 0), ("boxes", .ref lb), ("lands", .ref ll), ("current", .ref cu), ("wind", .ref wi), ("sightings", .int 0), ("lo", .int lo), ("hi", .int hi)]) O10.at_
    have hwi11 := ((hwi8.updI (o := .ins W.S dx [("hour", .int 0), ("boxes", .ref lb), ("lands", .ref ll), ("current", .ref cu), ("wind", .ref wi), ("sightings", .int 0)]) O8.at_).updI (o := .ins W.S dx [("hour", .int 0), ("boxes", .ref lb), ("lands", .ref ll), ("current", .ref cu), ("wind", .ref wi), ("sightings", .int 0), ("lo", .int lo)]) O9.at_).updI (o := .ins W.S dx [("hour", .int 0), ("boxes", .ref lb), ("lands", .ref ll), ("current", .ref cu), ("wind", .ref wi), ("sightings", .int 0), ("lo", .int lo), ("hi", .int hi)]) O10.at_
    refine ⟨Nat.zero_le _, fun p hp => ?_⟩
    have np := O11.free hp
    have s12 := same_new (o := .lst []) hp
    have O12 := O11.same s12
    have hl12 := s12 _ _ hl11
    have hcu12 := hcu11.same s12
    have hwi12 := hwi11.same s12
    have nlp : ll ≠ p := ne_of_none hl11 hp
    refine ⟨_, rfl, a, W.S, dx, _, rfl, O12.at_, T.cl, T.ahead, (by show 8 < 1000; decide), ?_⟩
    exact k _ ll cu wi p O12.set.off upd_same nll (lst_updI hl12 O12.at_) (hcu12.updI O12.at_) (hwi12.updI O12.at_) np (lst_updI upd_same O12.at_) nlp
end
end Db
end
section
/-! sea.py: the methods. -/
set_option Elab.async false
set_option linter.all false
set_option maxRecDepth 100000
namespace Db
open PySem PySem.Spec PyProof.Rows L2
open Km444 (Box Sea Desk)

def spCopied (W : Cl) : Sp := fun vs H Q _ => ∃ g a s dx lb ll cu wi p, vs = [.ref a] ∧ SeaP W g H a s dx lb ll cu wi p ∧
  ∀ (H' : Hp) (a' dx' p' : Addr), Same H H' → H a' = none → H' a' = some (.ins W.S dx' (sf s.hour lb ll cu wi s.seen s.lo s.hi p')) → H p' = none → H' p' = some (.lst []) → Q (.ref a') H'
def spDrift (W : Cl) : Sp := fun vs H Q _ => ∃ g a s, vs = [.ref a] ∧ SeaAt W g H a s ∧ SeaOk s ∧ NewBox W.B H (pDrift s) Q
def spAfter (W : Cl) : Sp := fun vs H Q _ => ∃ g a, ∃ n : Nat, vs = [.ref a, .int n] ∧ Tg W g H ∧ SeaAt W g H a (g.S a) ∧ SeaOk (g.S a) ∧ n ≤ 48 ∧
  ∀ (H' : Hp) (l : Addr), Aft W g a H H' → LstO W g H' l (hoursOn (g.S a) n (g.S a).boxes) → Q (.ref l) H'

theorem at_last {ls : List Addr} (h : ls ≠ []) : ∃ l, ls[ls.length - 1]? = some l ∧ atI (ls.map V.ref) (-1) = some (.ref l) := by
  refine ⟨ls.getLast h, ?_, ?_⟩
  · rw [← List.getLast?_eq_getElem?]
    exact List.getLast?_eq_some_getLast h
  · have e : ls.map V.ref = (ls.dropLast).map V.ref ++ [V.ref (ls.getLast h)] := by
      conv => lhs; rw [← List.dropLast_concat_getLast h]
      rw [List.map_append]
      rfl
    rw [e]
    exact atI_last _ _

/-- what lies ahead of the sea at a, while it is looked up -/
structure AhP (W : Cl) (g : Gh) (a : Addr) (s : Sea) (dx lb ll cu wi p : Addr) (H Hx : Hp) (ls : List Addr) : Prop where
  tg : Tg W g Hx
  t : ∀ b u, H b = some u → ∃ u', Hx b = some u'
  k : Kpt (fun t => t = (a, 0)) g H Hx
  at_ : Hx a = some (.ins W.S dx (sf s.hour lb ll cu wi s.seen s.lo s.hi p))
  bx : LstO W g Hx lb s.boxes
  ld : LstO W g Hx ll s.lands
  cu : BoxAt W.B Hx cu s.current
  wi : BoxAt W.B Hx wi s.wind
  tp : g.O p = some (a, 0)
  e : Hx p = some (.lst (ls.map V.ref))
  q : ∀ (i : Nat) (l : Addr), ls[i]? = some l → LstO W g Hx l (hoursOn s i s.boxes)
section
variable {W : Cl} {g : Gh} {a dx lb ll cu wi p : Addr} {s : Sea} {H Hx Hy : Hp} {ls : List Addr}
theorem AhP.seaP (h : AhP W g a s dx lb ll cu wi p H Hx ls) (hl : ls.length ≤ 49) : SeaP W g Hx a s dx lb ll cu wi p := ⟨h.at_, h.bx, h.ld, h.cu, h.wi, h.tp, ls, h.e, hl, h.q⟩
theorem AhP.same (h : AhP W g a s dx lb ll cu wi p H Hx ls) (k : Same Hx Hy) : AhP W g a s dx lb ll cu wi p H Hy ls :=
  ⟨h.tg.same k, fun b u e => let ⟨u', e'⟩ := h.t b u e; ⟨u', k _ _ e'⟩, fun b u e n => k _ _ (h.k b u e n), k _ _ h.at_, h.bx.same k, h.ld.same k, h.cu.same k, h.wi.same k, h.tp, k _ _ h.e, fun i l hl => (h.q i l hl).same k⟩
theorem LstO.updP {bs : List Box} {l p : Addr} {t : Addr × Nat} {xs ys : List V} (h : LstO W g Hx l bs) (tp : g.O p = some t) (e : Hx p = some (.lst xs)) : LstO W g (upd Hx p (.lst ys)) l bs := by
  obtain ⟨n, as, e1, r⟩ := h
  refine ⟨n, as, ?_, Bxs.lst e r⟩
  rw [upd_ne (fun z => by rw [z, tp] at n; cases n)]
  exact e1
theorem AhP.app (h : AhP W g a s dx lb ll cu wi p H Hx ls) {l' : Addr} (hl : LstO W g Hx l' (hoursOn s ls.length s.boxes)) : AhP W g a s dx lb ll cu wi p H (upd Hx p (.lst (ls.map V.ref ++ [.ref l']))) (ls ++ [l']) := by
  refine ⟨h.tg.lst h.e, fun b u e => ?_, fun b u e n => ?_, ?_, h.bx.updP h.tp h.e, h.ld.updP h.tp h.e, h.cu.lst h.e, h.wi.lst h.e, h.tp, ?_, fun i l hi => ?_⟩
  · by_cases hb : b = p
    · subst hb; exact ⟨_, upd_same⟩
    · rw [upd_ne hb]; exact h.t b u e
  · rw [upd_ne (fun z => by subst z; exact n _ h.tp rfl)]
    exact h.k b u e n
  · rw [upd_ne (ne_of h.at_ h.e (fun z => by cases z))]; exact h.at_
  · rw [upd_same, List.map_append]; rfl
  · by_cases hl' : i < ls.length
    · rw [List.getElem?_append_left hl'] at hi
      exact (h.q i l hi).updP h.tp h.e
    · have e : i = ls.length := by
        have := (List.getElem?_eq_some_iff.mp hi).1
        rw [List.length_append, List.length_singleton] at this
        omega
      subst e
      rw [List.getElem?_append_right (Nat.le_refl _), Nat.sub_self] at hi
      have : l' = l := Option.some.inj hi
      subst this
      exact hl.updP h.tp h.e
theorem AhP.aft (h : AhP W g a (g.S a) dx lb ll cu wi p H Hx ls) (hl : ls.length ≤ 49) : Aft W g a H Hx := ⟨h.tg, h.t, h.k, dx, lb, ll, cu, wi, p, h.seaP hl⟩
end

section
variable {P : Program} {w : World} {K : PySem.W.Frag} {mg : Str → Option Value} {base : Heap} {W : Cl}
theorem scCopied : FnScope ["self", "same"] ["self"] (defScope sCopied) := ⟨rfl, rfl, rfl, by decide +kernel, rfl, by decide +kernel, by decide +kernel⟩
theorem ok_copied {f : Addr} {fd : FuncData} (F : Fun K "copied" "Sea.copied" sCopied f fd) (T : SeaCls K W.S) (M : SeaMk P w K mg base W) : FnOk P w K mg base CX0 5 f fd ["self"] (spCopied W) := by
  refine F.ok scCopied (fun vs H Q E h => ?_) (fun cdv A outer s H vs Q E hr h => ?_)
  · obtain ⟨g, a, s, dx, lb, ll, cu, wi, p, rfl, _⟩ := h
    rfl
  · obtain ⟨g, a, s, dx, lb, ll, cu, wi, p, rfl, h, k⟩ := h
    refine ⟨_, pss_cons (ps_set (i := 1) scCopied.nd rfl (Or.inl rfl) (pe_sea M hr (pa_cons (pe_fld (pv 0) rfl) (pa_cons (pe_fld (pv 0) rfl) (pa_cons (pe_fld (pv 0) rfl) pa_nil)))))
      (pss_cons (ps_fld (pv 1) (pe_fld (pv 0) rfl) rfl) (pss_cons (ps_fld (pv 1) (pe_fld (pv 0) rfl) rfl) (pss_cons (ps_fld (pv 1) (pe_fld (pv 0) rfl) rfl) (pss_cons (ps_fld (pv 1) (pe_fld (pv 0) rfl) rfl) (pss_cons (ps_fld (pv 1) (pe_fld (pv 0) rfl) rfl)
      (pss_one (ps_ret (pv 1)))))))), ?_⟩
    refine ⟨_, rfl, a, W.S, dx, _, _, rfl, h.at_, T.cl, T.boxes, sf_boxes, _, rfl, a, W.S, dx, _, _, rfl, h.at_, T.cl, T.lo, sf_lo, _, rfl, a, W.S, dx, _, _, rfl, h.at_, T.cl, T.hi, sf_hi, lb, _, _, rfl, ?_⟩
    intro H1 a' dx' ll1 cu1 wi1 p' s1 na ea nl el hcu hwi np ep nlp
    have naa : a ≠ a' := ne_of_none h.at_ na
    have Oa := s1 _ _ h.at_
    have off : ∀ b o, H b = some o → H1 b = some o := s1
    have keep : ∀ {Hx : Hp} {o : HO}, Hx a = some (.ins W.S dx (sf s.hour lb ll cu wi s.seen s.lo s.hi p)) → (upd Hx a' o) a = some (.ins W.S dx (sf s.hour lb ll cu wi s.seen s.lo s.hi p)) := fun e => by rw [upd_ne naa]; exact e
    refine ⟨_, rfl, a, W.S, dx, _, _, rfl, Oa, T.cl, T.hour, sf_hour, _, rfl, a', W.S, dx', _, rfl, ea, T.cl, T.hour, sf_len, ?_⟩
    have e2 : (upd H1 a' (.ins W.S dx' (putF "hour" (.int s.hour) (sf 0 lb ll1 cu1 wi1 0 s.lo s.hi p')))) a' = some (.ins W.S dx' (sf s.hour lb ll1 cu1 wi1 0 s.lo s.hi p')) := upd_same
    have a2 := keep (o := .ins W.S dx' (putF "hour" (.int s.hour) (sf 0 lb ll1 cu1 wi1 0 s.lo s.hi p'))) Oa
    have p2 := lst_updI (o := .ins W.S dx' (putF "hour" (.int s.hour) (sf 0 lb ll1 cu1 wi1 0 s.lo s.hi p'))) ep ea
    have o2 : Same H (upd H1 a' (.ins W.S dx' (putF "hour" (.int s.hour) (sf 0 lb ll1 cu1 wi1 0 s.lo s.hi p')))) := Same.upd_new s1 na
    generalize upd H1 a' (.ins W.S dx' (putF "hour" (.int s.hour) (sf 0 lb ll1 cu1 wi1 0 s.lo s.hi p'))) = H2 at *
    refine ⟨_, rfl, a, W.S, dx, _, _, rfl, a2, T.cl, T.lands, sf_lands, _, rfl, a', W.S, dx', _, rfl, e2, T.cl, T.lands, sf_len, ?_⟩
    have e3 : (upd H2 a' (.ins W.S dx' (putF "lands" (.ref ll) (sf s.hour lb ll1 cu1 wi1 0 s.lo s.hi p')))) a' = some (.ins W.S dx' (sf s.hour lb ll cu1 wi1 0 s.lo s.hi p')) := upd_same
    have a3 := keep (o := .ins W.S dx' (putF "lands" (.ref ll) (sf s.hour lb ll1 cu1 wi1 0 s.lo s.hi p'))) a2
    have p3 := lst_updI (o := .ins W.S dx' (putF "lands" (.ref ll) (sf s.hour lb ll1 cu1 wi1 0 s.lo s.hi p'))) p2 e2
    have o3 : Same H (upd H2 a' (.ins W.S dx' (putF "lands" (.ref ll) (sf s.hour lb ll1 cu1 wi1 0 s.lo s.hi p')))) := Same.upd_new o2 na
    generalize upd H2 a' (.ins W.S dx' (putF "lands" (.ref ll) (sf s.hour lb ll1 cu1 wi1 0 s.lo s.hi p'))) = H3 at *
    refine ⟨_, rfl, a, W.S, dx, _, _, rfl, a3, T.cl, T.current, sf_current, _, rfl, a', W.S, dx', _, rfl, e3, T.cl, T.current, sf_len, ?_⟩
    have e4 : (upd H3 a' (.ins W.S dx' (putF "current" (.ref cu) (sf s.hour lb ll cu1 wi1 0 s.lo s.hi p')))) a' = some (.ins W.S dx' (sf s.hour lb ll cu wi1 0 s.lo s.hi p')) := upd_same
    have a4 := keep (o := .ins W.S dx' (putF "current" (.ref cu) (sf s.hour lb ll cu1 wi1 0 s.lo s.hi p'))) a3
    have p4 := lst_updI (o := .ins W.S dx' (putF "current" (.ref cu) (sf s.hour lb ll cu1 wi1 0 s.lo s.hi p'))) p3 e3
    have o4 : Same H (upd H3 a' (.ins W.S dx' (putF "current" (.ref cu) (sf s.hour lb ll cu1 wi1 0 s.lo s.hi p')))) := Same.upd_new o3 na
    generalize upd H3 a' (.ins W.S dx' (putF "current" (.ref cu) (sf s.hour lb ll cu1 wi1 0 s.lo s.hi p'))) = H4 at *
    refine ⟨_, rfl, a, W.S, dx, _, _, rfl, a4, T.cl, T.wind, sf_wind, _, rfl, a', W.S, dx', _, rfl, e4, T.cl, T.wind, sf_len, ?_⟩
    have e5 : (upd H4 a' (.ins W.S dx' (putF "wind" (.ref wi) (sf s.hour lb ll cu wi1 0 s.lo s.hi p')))) a' = some (.ins W.S dx' (sf s.hour lb ll cu wi 0 s.lo s.hi p')) := upd_same
    have a5 := keep (o := .ins W.S dx' (putF "wind" (.ref wi) (sf s.hour lb ll cu wi1 0 s.lo s.hi p'))) a4
    have p5 := lst_updI (o := .ins W.S dx' (putF "wind" (.ref wi) (sf s.hour lb ll cu wi1 0 s.lo s.hi p'))) p4 e4
    have o5 : Same H (upd H4 a' (.ins W.S dx' (putF "wind" (.ref wi) (sf s.hour lb ll cu wi1 0 s.lo s.hi p')))) := Same.upd_new o4 na
    generalize upd H4 a' (.ins W.S dx' (putF "wind" (.ref wi) (sf s.hour lb ll cu wi1 0 s.lo s.hi p'))) = H5 at *
    refine ⟨_, rfl, a, W.S, dx, _, _, rfl, a5, T.cl, T.seen, sf_seen, _, rfl, a', W.S, dx', _, rfl, e5, T.cl, T.seen, sf_len, ?_⟩
    refine ⟨_, rfl, k _ a' dx' p' (Same.upd_new o5 na) na ?_ np (lst_updI p5 e5)⟩
    exact upd_same

theorem scDrift : FnScope ["self", "current", "wind"] ["self"] (defScope sDrift) := ⟨rfl, rfl, rfl, by decide +kernel, rfl, by decide +kernel, by decide +kernel⟩
theorem bd64 {b : Box} (h : Bd 1000 b) : in64 b.w ∧ in64 b.e ∧ in64 b.s ∧ in64 b.n := by
  obtain ⟨_, _, _, _, _, _⟩ := h
  unfold in64
  omega
theorem ok_drift {f : Addr} {fd : FuncData} (F : Fun K "hour_drift" "Sea.hour_drift" sDrift f fd) (T : SeaCls K W.S) (TB : BoxCls K W.B) (M : BoxMk P w K mg base W.B) (Dl : Df P w K mg base 1 "least_taken" ["low", "high", "lo", "hi"] spLeast) (Dm : Df P w K mg base 1 "most_taken" ["low", "high", "lo", "hi"] spMost) : FnOk P w K mg base CX0 3 f fd ["self"] (spDrift W) := by
  refine F.ok scDrift (fun vs H Q E h => ?_) (fun cdv A outer s H vs Q E hr h => ?_)
  · obtain ⟨g, a, s, rfl, _⟩ := h
    rfl
  · obtain ⟨g, a, s, rfl, ⟨dx, lb, ll, cu, wi, p, h⟩, ok, k⟩ := h
    have hr1 : Room 1 _ := hr.mono (by decide)
    refine ⟨_, pss_cons (ps_set (i := 1) scDrift.nd rfl (Or.inl rfl) (pe_fld (pv 0) rfl)) (pss_cons (ps_set (i := 2) scDrift.nd rfl (Or.inl rfl) (pe_fld (pv 0) rfl))
      (pss_one (ps_ret (pe_box M hr (pa_cons (pe_op op_add (vW TB 1 (pv 1)) (pe_fn Dl hr1 (pa_cons (vW TB 2 (pv 2)) (pa_cons (vE TB 2 (pv 2)) (pa_cons (pe_fld (pv 0) rfl) (pa_cons (pe_fld (pv 0) rfl) pa_nil))))))
        (pa_cons (pe_op op_add (vE TB 1 (pv 1)) (pe_fn Dm hr1 (pa_cons (vW TB 2 (pv 2)) (pa_cons (vE TB 2 (pv 2)) (pa_cons (pe_fld (pv 0) rfl) (pa_cons (pe_fld (pv 0) rfl) pa_nil))))))
        (pa_cons (pe_op op_add (vS TB 1 (pv 1)) (pe_fn Dl hr1 (pa_cons (vS TB 2 (pv 2)) (pa_cons (vN TB 2 (pv 2)) (pa_cons (pe_fld (pv 0) rfl) (pa_cons (pe_fld (pv 0) rfl) pa_nil))))))
        (pa_cons (pe_op op_add (vN TB 1 (pv 1)) (pe_fn Dm hr1 (pa_cons (vS TB 2 (pv 2)) (pa_cons (vN TB 2 (pv 2)) (pa_cons (pe_fld (pv 0) rfl) (pa_cons (pe_fld (pv 0) rfl) pa_nil)))))) pa_nil)))))))), ?_⟩
    obtain ⟨b1, b2, b3, b4⟩ := bd64 ok.win
    refine ⟨_, rfl, a, W.S, dx, _, _, rfl, h.at_, T.cl, T.current, sf_current, _, rfl, a, W.S, dx, _, _, rfl, h.at_, T.cl, T.wind, sf_wind, ?_⟩
    refine ⟨cu, _, rfl, h.cu, wi, _, rfl, h.wi, wi, _, rfl, h.wi, _, rfl, a, W.S, dx, _, _, rfl, h.at_, T.cl, T.lo, sf_lo, _, rfl, a, W.S, dx, _, _, rfl, h.at_, T.cl, T.hi, sf_hi, _, _, _, _, rfl, b1, b2, _, _, rfl, rfl, ?_⟩
    refine ⟨cu, _, rfl, h.cu, wi, _, rfl, h.wi, wi, _, rfl, h.wi, _, rfl, a, W.S, dx, _, _, rfl, h.at_, T.cl, T.lo, sf_lo, _, rfl, a, W.S, dx, _, _, rfl, h.at_, T.cl, T.hi, sf_hi, _, _, _, _, rfl, b1, b2, _, _, rfl, rfl, ?_⟩
    refine ⟨cu, _, rfl, h.cu, wi, _, rfl, h.wi, wi, _, rfl, h.wi, _, rfl, a, W.S, dx, _, _, rfl, h.at_, T.cl, T.lo, sf_lo, _, rfl, a, W.S, dx, _, _, rfl, h.at_, T.cl, T.hi, sf_hi, _, _, _, _, rfl, b3, b4, _, _, rfl, rfl, ?_⟩
    refine ⟨cu, _, rfl, h.cu, wi, _, rfl, h.wi, wi, _, rfl, h.wi, _, rfl, a, W.S, dx, _, _, rfl, h.at_, T.cl, T.lo, sf_lo, _, rfl, a, W.S, dx, _, _, rfl, h.at_, T.cl, T.hi, sf_hi, _, _, _, _, rfl, b3, b4, _, _, rfl, rfl, ?_⟩
    exact ⟨_, _, _, _, rfl, k⟩

abbrev afterN : List Str := ["self", "n", "drift", "gone", "box"]
theorem scAfter : FnScope afterN ["self", "n"] (defScope sAfter) := ⟨rfl, rfl, rfl, by decide +kernel, rfl, by decide +kernel, by decide +kernel⟩
theorem far_bd {s : Sea} (ok : SeaOk s) {n : Nat} (hn : n ≤ 49) : ∀ b ∈ hoursOn s n s.boxes, Bd 99999000 b := fun b hb => (hoursOn_bd ok ok.bd n b hb).mono (by have := ok.hr; unfold edge; omega)
theorem drift300 {s : Sea} (ok : SeaOk s) : Bd 300 (pDrift s) := by rw [pDrift_eq]; exact drift_bd ok.cur ok.win ok.lohi ok.hi20
theorem if_ahead {D : Ends} {g : Gh} {a dx lb ll cu wi p : Addr} {sx : Sea} {H : Hp} {ls : List Addr} {v1 : V} (T : SeaCls K W.S) (A0 : AhP W g a sx dx lb ll cu wi p H H ls) (l49 : ls.length ≤ 49)
    (hR : ∀ (ls : List Addr) (H1 : Hp), AhP W g a sx dx lb ll cu wi p H H1 ls → ls ≠ [] → ls.length ≤ 49 → D.nx [some (.ref a), some v1, none, none, none] H1) :
    tIfS (tNot fun σ H Q => tFld K (tVar 0) "ahead" σ H fun x H' => ∃ k, TruV K x H' k ∧ Q k H') (tDrop (tBM K "list" rAppend (tFld K (tVar 0) "ahead") (tCons (tFld K (tVar 0) "boxes") tNil))) tNext D [some (.ref a), some v1, none, none, none] H := by
  refine ⟨_, rfl, a, W.S, dx, _, _, rfl, A0.at_, T.cl, T.ahead, sf_ahead, _, .inl ⟨_, SqL.of A0.e, rfl⟩, ?_⟩
  by_cases he : ls = []
  · subst he
    refine iteT ?_
    refine ⟨_, rfl, a, W.S, dx, _, _, rfl, A0.at_, T.cl, T.ahead, sf_ahead, .inl ⟨rfl, _, SqL.of A0.e⟩, _, rfl, a, W.S, dx, _, _, rfl, A0.at_, T.cl, T.boxes, sf_boxes, p, _, _, rfl, rfl, A0.e, (by decide), ?_⟩
    exact hR [lb] _ (A0.app (l' := lb) A0.bx) (by simp) (by show 1 ≤ 49; decide)
  · have e1 : (!(ls.map V.ref).isEmpty) = true := by
      cases ls with
      | nil => exact absurd rfl he
      | cons _ _ => rfl
    rw [e1]
    exact iteF (hR ls H A0 he l49)
set_option maxHeartbeats 1000000 in
theorem ok_after {f : Addr} {fd : FuncData} (F : Fun K "boxes_after" "Sea.boxes_after" sAfter f fd) (B : Blt mg) (T : SeaCls K W.S) (Md : Mth P w K mg base W.S 3 "hour_drift" ["self"] (spDrift W)) (Dm : Df P w K mg base 3 "moved" ["box", "drift"] (spTwo W.B Box.plus))
    (Dw : Df P w K mg base 5 "without" ["boxes", "takens"] (spWithout W.B)) (D4 : Df P w K mg base 6 "at_most_four" ["boxes"] (spFour W.B)) : FnOk P w K mg base CX0 7 f fd ["self", "n"] (spAfter W) := by
  refine F.ok scAfter (fun vs H Q E h => ?_) (fun cdv A outer s H vs Q E hr h => ?_)
  · obtain ⟨g, a, n, rfl, _⟩ := h
    rfl
  · obtain ⟨g, a, n, rfl, tg, ⟨dx, lb, ll, cu, wi, p, h⟩, ok, hn, k⟩ := h
    have hr3 : Room 3 _ := hr.mono (by decide)
    have hr5 : Room 5 _ := hr.mono (by decide)
    refine ⟨_, pss_cons (ps_if (pt_not (pt_truth (pe_fld (pv 0) rfl) (fun _ => rfl))) (pss_one (ps_expr (pe_bm PySem.F.plainAttrs_list PySem.F.slot_list_append PySem.F.type_list_append mt_append (pe_fld (pv 0) rfl) (pa_cons (pe_fld (pv 0) rfl) pa_nil)))) pss_nil)
      (pss_cons (ps_set (i := 2) scAfter.nd rfl (Or.inr rfl) (pe_mth0 Md T.cl (pv 0) hr3))
      (pss_cons (ps_while PassesOwn.never (pt_cmpR op_le (pe_callB call_len_seq rfl B.len PySem.boot_len (pa_cons (pe_fld (pv 0) rfl) pa_nil)) (pv 1) (nomark _))
        (pss_cons (ps_setLc (i := 3) (own := [("box", 4)]) rfl scAfter.nd rfl rfl (sw_true rfl rfl rfl (by decide +kernel)) (pi_list (pe_ix ix_list (pe_fld (pv 0) rfl) (pe_un un_neg pe_int) (fun _ _ => rfl))) (blkOk_by (by show blkC afterN (defScope sAfter) _ _ = true; decide +kernel))
          (fun s H C cl fp => pg_name (i := 4) scAfter.nd rfl (Or.inl rfl)) (fun s H C' cl fp => pts_nil) (fun s H C' cl fp => pe_fn Dm hr3 (pa_cons (pv 4) (pa_cons (pv 2) pa_nil))))
        (pss_one (ps_expr (pe_bm PySem.F.plainAttrs_list PySem.F.slot_list_append PySem.F.type_list_append mt_append (pe_fld (pv 0) rfl) (pa_cons (pe_fn D4 hr (pa_cons (pe_fn Dw hr5 (pa_cons (pv 3) (pa_cons (pe_fld (pv 0) rfl) pa_nil))) pa_nil)) pa_nil))))))
      (pss_one (ps_ret (pe_ix ix_list (pe_fld (pv 0) rfl) (pv 1) (fun _ _ => rfl)))))), ?_⟩
    obtain ⟨ls, el, ll49, hq⟩ := h.ah
    have A0 : AhP W g a (g.S a) dx lb ll cu wi p H H ls := ⟨tg, fun b u e => ⟨u, e⟩, fun _ _ e _ => e, h.at_, h.bx, h.ld, h.cu, h.wi, h.tg, el, hq⟩
    clear h
    refine if_ahead T A0 ll49 fun ls H1 A1 lne l49 => ?_
    refine ⟨_, rfl, a, dx, _, rfl, A1.at_, sf_drift, g, a, g.S a, rfl, ⟨dx, lb, ll, cu, wi, p, A1.seaP l49⟩, ok, fun H2 dr s2 hdr => ?_⟩
    have A2 := A1.same s2
    refine ⟨fun m σ Hx => ∃ (ls : List Addr) (v3 v4 : Option V), σ = [some (.ref a), some (.int n), some (.ref dr), v3, v4] ∧ AhP W g a (g.S a) dx lb ll cu wi p H Hx ls ∧ BoxAt W.B Hx dr (pDrift (g.S a)) ∧ ls ≠ [] ∧ ls.length ≤ 49 ∧ m = 49 - ls.length,
      ⟨_, ls, none, none, rfl, A2, hdr, lne, l49, rfl⟩, ?_⟩
    rintro m σ Hx ⟨ls, v3, v4, rfl, Ax, hdx, lne, l49, rfl⟩
    refine ⟨_, rfl, a, W.S, dx, _, _, rfl, Ax.at_, T.cl, T.ahead, sf_ahead, p, _, rfl, .inl (SqL.of Ax.e), _, rfl, _, _, rfl, rfl, _, rfl, ?_⟩
    refine ite2 (fun hc => ⟨fun σ' H' => ∃ m', m' < 49 - ls.length ∧ ∃ (ls : List Addr) (v3 v4 : Option V), σ' = [some (.ref a), some (.int n), some (.ref dr), v3, v4] ∧ AhP W g a (g.S a) dx lb ll cu wi p H H' ls ∧ BoxAt W.B H' dr (pDrift (g.S a)) ∧ ls ≠ [] ∧ ls.length ≤ 49 ∧ m' = 49 - ls.length, fun _ _ h => h, ?_⟩) (fun hc => ?_)
    · have hlen : ls.length ≤ n := by
        have := of_decide_eq_true hc
        rw [List.length_map] at this
        omega
      obtain ⟨l1, hl1, at1⟩ := at_last lne
      obtain ⟨n1, as, ea, hB⟩ := Ax.q _ _ hl1
      refine ⟨_, rfl, a, W.S, dx, _, _, rfl, Ax.at_, T.cl, T.ahead, sf_ahead, _, rfl, p, _, _, _, rfl, rfl, SqL.of Ax.e, at1, l1, rfl, ⟨_, SqL.of ea⟩, fun D hD => ?_⟩
      refine lc_list (K := K) (a := l1) (xs := as.map V.ref)
        (fun i H' => Same Hx H' ∧ ∃ aq, H' D = some (.lst (aq.map V.ref)) ∧ Bxs W.B H' aq (((hoursOn (g.S a) (ls.length - 1) (g.S a).boxes).take i).map fun x => x.plus (pDrift (g.S a)))) ⟨same_new hD, [], upd_same, .nil⟩ (fun i H' _ ⟨s7, _⟩ => SqL.of (s7 _ _ ea)) ?_ ?_
      · rintro i x H' hi ⟨s1, aq, hq, hBq⟩
        obtain ⟨c, hc, rfl⟩ := get_map_ref hi
        obtain ⟨y, hy, hcy⟩ := hB.get hc
        refine ⟨rfl, ?_⟩
        refine ⟨_, rfl, _, rfl, c, dr, y, _, rfl, hcy.same s1, hdx.same s1, fun H3 p s3 hp => ⟨_, s3 _ _ hq, ?_, Same.upd_new (s1.trans s3) hD, aq ++ [p], ?_, ?_⟩⟩
        · rw [List.length_map, hBq.len, List.length_map, List.length_take, sizeLine_eq]
          have := hoursOn_len ok.le4 (ls.length - 1)
          omega
        · rw [upd_same, List.map_append]; rfl
        · rw [take_snoc hy, List.map_append]
          exact (Bxs.lst (s3 _ _ hq) (Bxs.same s3 hBq)).append (.one (hp.lst (s3 _ _ hq)))
      · rintro H' ⟨s1, aq, hq, hBq⟩
        rw [List.length_map, hB.len, List.take_length] at hBq
        have A3 := Ax.same s1
        have h4 := hoursOn_len ok.le4 (ls.length - 1)
        refine ⟨_, rfl, a, W.S, dx, _, _, rfl, A3.at_, T.cl, T.ahead, sf_ahead, .inl ⟨rfl, _, SqL.of A3.e⟩, _, rfl, _, rfl, a, W.S, dx, _, _, rfl, A3.at_, T.cl, T.lands, sf_lands, D, ll, _, _, rfl, ⟨aq, hq, hBq⟩, A3.ld.2, (by rw [List.length_map]; omega), ok.l4, fun H4 l4 s4 hl4 => ?_⟩
        have hbd : ∀ b ∈ (hoursOn (g.S a) (ls.length - 1) (g.S a).boxes).map (fun x => x.plus (pDrift (g.S a))), Bd 100000000 b := fun b hb => by
          obtain ⟨b0, hb0, rfl⟩ := List.mem_map.mp hb
          exact ((far_bd ok (by omega) b0 hb0).plus (drift300 ok)).mono (by omega)
        refine ⟨l4, _, rfl, hl4, dry_len8 ok.l4 (by rw [List.length_map]; omega), dry_bd hbd, fun H5 l5 s5 n5 hl5 => ?_⟩
        have A4 := A3.same s4
        have A5 := A4.same s5
        rw [hourOn_eq] at hl5
        have el : ls.length = (ls.length - 1) + 1 := by
          have := List.length_pos_iff.mpr lne
          omega
        have eh : hourOn (g.S a) (hoursOn (g.S a) (ls.length - 1) (g.S a).boxes) = hoursOn (g.S a) ls.length (g.S a).boxes := by
          rw [← hoursOn_snoc, ← el]
        rw [eh] at hl5
        refine ⟨p, _, _, rfl, rfl, A5.e, (by rw [List.length_map, sizeLine_eq]; omega), ?_⟩
        refine ⟨_, ?_, ls ++ [l5], _, _, rfl, A5.app ⟨A4.tg.new n5, hl5⟩, ((hdx.same s1).same (s4.trans s5)).lst A5.e, (by simp), (by rw [List.length_append, List.length_singleton]; omega), rfl⟩
        rw [List.length_append, List.length_singleton]
        omega
    · have hlen : n < ls.length := by
        have : ¬ ((ls.map V.ref).length : Int) ≤ (n : Int) := fun z => hc (decide_eq_true z)
        rw [List.length_map] at this
        omega
      obtain ⟨l1, hl1⟩ : ∃ l1, ls[n]? = some l1 := ⟨_, List.getElem?_eq_getElem hlen⟩
      refine ⟨_, rfl, a, W.S, dx, _, _, rfl, Ax.at_, T.cl, T.ahead, sf_ahead, _, rfl, p, _, _, .ref l1, rfl, rfl, SqL.of Ax.e, at_of (j := n) rfl (by rw [List.getElem?_map, hl1]; rfl), ?_⟩
      exact k Hx l1 (Ax.aft l49) (Ax.q n l1 hl1)
end
end Db
end
section
/-! course.py: one theorem a def. -/
set_option Elab.async false
set_option linter.all false
set_option maxRecDepth 100000
namespace Db
open PySem PySem.Spec PyProof.Rows L2
open Km444 (Box Sea Desk)

abbrev sCInit : Stmt := inClass (top 28) 0
abbrev sBegin : Stmt := inClass (top 28) 1
abbrev sChange : Stmt := inClass (top 28) 2
abbrev sTakeBack : Stmt := inClass (top 28) 3
abbrev sDoAgain : Stmt := inClass (top 28) 4

structure CrsCls (K : PySem.W.Frag) (C : Addr) : Prop where
  cl : Cls K C
  sea : NoAttr K C "sea"
  earlier : NoAttr K C "earlier"
  later : NoAttr K C "later"

/-- nothing but c changes, and no tag but c's -/
def OffC (g g' : Gh) (H H' : Hp) (c : Addr) : Prop := ∀ b u, H b = some u → b ≠ c → g'.O b = g.O b ∧ H' b = some u
def spBegin (W : Cl) : Sp := fun vs H Q _ => ∃ g c dx fs b bx, ∃ lo hi : Nat, vs = [.ref c, .ref b, .int lo, .int hi] ∧ Tg W g H ∧ H c = some (.ins W.K dx fs) ∧ (fs = [] ∨ ∃ a le ll, fs = cf a le ll) ∧ BoxAt W.B H b bx ∧
  ∀ (g' : Gh) (H' : Hp), Crs W g' H' c (Km444.fresh bx lo hi) → OffC g g' H H' c → Q .non H'
def spCInit (W : Cl) : Sp := fun vs H Q _ => ∃ g c dx, vs = [.ref c] ∧ Tg W g H ∧ H c = some (.ins W.K dx []) ∧ ∀ (g' : Gh) (H' : Hp), Crs W g' H' c desk0 → OffC g g' H H' c → Q .non H'
def spChange (W : Cl) : Sp := fun vs H Q _ => ∃ g c d a', vs = [.ref c, .ref a'] ∧ Crs W g H c d ∧ d.past.length ≤ 20 ∧ SeaAt W g H a' (g.S a') ∧
  ∀ (g' : Gh) (H' : Hp), Crs W g' H' c (d.become (g.S a')) → Stp g g' H H' → Q .non H'
def spTakeBack (W : Cl) : Sp := fun vs H Q _ => ∃ g c d dx a le ll x r af, vs = [.ref c] ∧ CrsP W g H c d dx a le ll (x :: r) af ∧ af.length ≤ 20 ∧
  ∀ H' : Hp, Crs W g H' c ⟨g.S x, r.map g.S, (a :: af).map g.S⟩ → Stp g g H H' → Q .non H'
def spDoAgain (W : Cl) : Sp := fun vs H Q _ => ∃ g c d dx a le ll x ap r, vs = [.ref c] ∧ CrsP W g H c d dx a le ll ap (x :: r) ∧ ap.length ≤ 20 ∧
  ∀ H' : Hp, Crs W g H' c ⟨g.S x, (a :: ap).map g.S, r.map g.S⟩ → Stp g g H H' → Q .non H'

theorem cut_back (l : List Addr) : cutV (l.reverse.map V.ref) (some (-20)) none = (l.take 20).reverse.map V.ref := by
  unfold cutV
  rw [HT.sIx_none]
  have e : HT.sIx (l.reverse.map V.ref).length 0 (some (-20)) = l.length - 20 := by
    show (if (-20 : Int) < 0 then ((-20 : Int) + ((l.reverse.map V.ref).length : Int)).toNat else min (-20 : Int).toNat (l.reverse.map V.ref).length) = _
    rw [if_pos (by decide), List.length_map, List.length_reverse]
    omega
  rw [e, List.take_of_length_le (by rw [List.length_drop]; exact Nat.le_refl _), ← List.map_drop, List.drop_reverse]
  congr 2
  by_cases h : l.length ≤ 20
  · rw [List.take_of_length_le (by omega), List.take_of_length_le (by omega)]
  · congr 1
    omega
theorem rev_snoc (a : Addr) (ap : List Addr) : ap.reverse.map V.ref ++ [V.ref a] = (a :: ap).reverse.map V.ref := by rw [List.reverse_cons, List.map_append]; rfl

section
variable {P : Program} {w : World} {K : PySem.W.Frag} {mg : Str → Option Value} {base : Heap} {W : Cl}

theorem scBegin : FnScope ["self", "box", "lo", "hi"] ["self", "box", "lo", "hi"] (defScope sBegin) := ⟨rfl, rfl, rfl, by decide +kernel, rfl, by decide +kernel, by decide +kernel⟩
theorem ok_begin {f : Addr} {fd : FuncData} (F : Fun K "begin" "Course.begin" sBegin f fd) (T : CrsCls K W.K) (M : SeaMk P w K mg base W) : FnOk P w K mg base CX0 5 f fd ["self", "box", "lo", "hi"] (spBegin W) := by
  refine F.ok scBegin (fun vs H Q E h => ?_) (fun cdv A outer s H vs Q E hr h => ?_)
  · obtain ⟨g, c, dx, fs, b, bx, lo, hi, rfl, _⟩ := h
    rfl
  · obtain ⟨g, c, dx, fs, b, bx, lo, hi, rfl, tg, hc, hfs, hb, k⟩ := h
    refine ⟨_, pss_cons (ps_fld (pv 0) (pe_sea M hr (pa_cons (pe_lst (pa_cons (pv 1) pa_nil)) (pa_cons (pv 2) (pa_cons (pv 3) pa_nil)))) rfl) (pss_cons (ps_fld (pv 0) (pe_lst pa_nil) rfl) (pss_one (ps_fld (pv 0) (pe_lst pa_nil) rfl))), ?_⟩
    refine ⟨_, rfl, (by show 1 ≤ sizeLine; decide), fun lb hlb => ⟨_, rfl, _, rfl, lb, _, _, rfl, ?_⟩⟩
    have s0 : Same H (upd H lb (.lst [.ref b])) := same_new hlb
    have hl0 : (upd H lb (.lst [.ref b])) lb = some (.lst [.ref b]) := upd_same
    have tg0 := tg.same s0
    have nlb := tg.new hlb
    generalize upd H lb (.lst [.ref b]) = H0 at *
    intro H1 a dxa ll cu wi p s1 na ea nl el hcu hwi np ep nlp
    have s01 := s0.trans s1
    have hc1 := s01 _ _ hc
    have l0 : fs.length ≤ 3 := by
      rcases hfs with rfl | ⟨_, _, _, rfl⟩
      · exact Nat.zero_le _
      · exact Nat.le_refl 3
    have l1 : fs.length < 1000 := by omega
    refine ⟨_, rfl, c, W.K, dx, fs, rfl, hc1, T.cl, T.sea, l1, ?_⟩
    -- the new sea, beside the course
    have ag : ∀ b u, H0 b = some u → (g.tag p (a, 0)).O b = g.O b := fun b u e => Gh.tag_ne (ne_of_none e np)
    have T1 : Tg W ((g.tag p (a, 0)).sea a (Km444.opened bx lo hi)) H1 := Tg.tag (tg0.same s1) (.inl ⟨_, ep⟩)
    have S1 : SeaAt W ((g.tag p (a, 0)).sea a (Km444.opened bx lo hi)) H1 a (Km444.opened bx lo hi) := by
      refine ⟨dxa, lb, ll, cu, wi, p, ea, ⟨?_, [b], s1 _ _ hl0, .one (hb.same s01)⟩, ⟨?_, [], el, .nil⟩, hcu, hwi, Gh.tag_at (g := g), [], ep, Nat.zero_le _, fun i l hi => by simp at hi⟩
      · show (g.tag p (a, 0)).O lb = none
        rw [ag _ _ hl0]; exact nlb
      · show (g.tag p (a, 0)).O ll = none
        rw [Gh.tag_ne nlp]; exact tg0.new nl
    have eS : ((g.tag p (a, 0)).sea a (Km444.opened bx lo hi)).S a = Km444.opened bx lo hi := Gh.sea_at
    have og : ∀ b u, H b = some u → ((g.tag p (a, 0)).sea a (Km444.opened bx lo hi)).O b = g.O b := fun b u e => ag b u (s0 _ _ e)
    generalize (g.tag p (a, 0)).sea a (Km444.opened bx lo hi) = g1 at *
    have k1 : ∀ {o : HO}, ∀ b u, H1 b = some u → b ≠ c → (upd H1 c o) b = some u := fun b u e n => by rw [upd_ne n]; exact e
    have l2' := length_putF "sea" (.ref a) fs
    have l2 : (putF "sea" (.ref a) fs).length < 1000 := by omega
    refine ⟨Nat.zero_le _, fun le hle => ⟨_, rfl, c, W.K, dx, _, rfl, ?_, T.cl, T.earlier, l2, ?_⟩⟩
    · rw [upd_ne (ne_of_none upd_same hle), upd_same]
    have nle : H1 le = none := upd_none hle
    have ncle : c ≠ le := ne_of_none hc1 nle
    have l3' := length_putF "earlier" (.ref le) (putF "sea" (.ref a) fs)
    have l3 : (putF "earlier" (.ref le) (putF "sea" (.ref a) fs)).length < 1000 := by omega
    refine ⟨Nat.zero_le _, fun l2 hl2 => ⟨_, rfl, c, W.K, dx, _, rfl, ?_, T.cl, T.later, l3, ?_⟩⟩
    · rw [upd_ne (ne_of_none upd_same hl2), upd_same]
    have nl2 : H1 l2 = none := upd_none (upd_none (upd_none hl2))
    have ncl2 : c ≠ l2 := ne_of_none hc1 nl2
    have nle2 : le ≠ l2 := fun z => by
      subst z
      rw [upd_ne (Ne.symm ncle), upd_same] at hl2
      cases hl2
    have ef : putF "later" (.ref l2) (putF "earlier" (.ref le) (putF "sea" (.ref a) fs)) = cf a le l2 := by rcases hfs with rfl | ⟨_, _, _, rfl⟩ <;> rfl
    rw [ef]
    obtain ⟨C1, O1⟩ := crs_mk (w := W) (g := g1) (H := H1) (Hf := upd (upd (upd (upd (upd H1 c (.ins W.K dx (putF "sea" (.ref a) fs))) le (.lst [])) c (.ins W.K dx (putF "earlier" (.ref le) (putF "sea" (.ref a) fs)))) l2 (.lst [])) c (.ins W.K dx (cf a le l2))) (ap' := [])
      T1 hc1 (fun b u e n => by rw [upd_ne n, upd_ne (ne_of_none e nl2), upd_ne n, upd_ne (ne_of_none e nle), upd_ne n]; exact e) upd_same nle (by rw [upd_ne (Ne.symm ncle), upd_ne nle2, upd_ne (Ne.symm ncle), upd_same]; rfl) nl2 (by rw [upd_ne (Ne.symm ncl2), upd_same]) nle2 (by rw [eS]; exact S1) (fun x hx => absurd hx List.not_mem_nil)
    rw [eS] at C1
    refine k _ _ ⟨_, _, _, _, _, _, C1⟩ fun b u e n => ?_
    have e1 := s01 _ _ e
    refine ⟨by rw [O1 b u e1 n, og b u e], ?_⟩
    rw [upd_ne n, upd_ne (ne_of_none e1 nl2), upd_ne n, upd_ne (ne_of_none e1 nle), upd_ne n]
    exact e1

theorem scCInit : FnScope ["self"] ["self"] (defScope sCInit) := ⟨rfl, rfl, rfl, by decide +kernel, rfl, by decide +kernel, by decide +kernel⟩
theorem ok_cInit {f : Addr} {fd : FuncData} (F : Fun K "__init__" "Course.__init__" sCInit f fd) (T : CrsCls K W.K) (M : BoxMk P w K mg base W.B) (Mb : Mth P w K mg base W.K 5 "begin" ["self", "box", "lo", "hi"] (spBegin W)) : FnOk P w K mg base CX0 6 f fd ["self"] (spCInit W) := by
  refine F.ok scCInit (fun vs H Q E h => ?_) (fun cdv A outer s H vs Q E hr h => ?_)
  · obtain ⟨g, c, dx, rfl, _⟩ := h
    rfl
  · obtain ⟨g, c, dx, rfl, tg, hc, k⟩ := h
    have hr2 : Room 2 _ := hr.mono (by decide)
    refine ⟨_, pss_one (ps_expr (pe_mth Mb T.cl (pv 0) hr (pa_cons (pe_box M hr2 (pa_cons pe_int (pa_cons pe_int (pa_cons pe_int (pa_cons pe_int pa_nil))))) (pa_cons pe_int (pa_cons pe_int pa_nil))))), ?_⟩
    refine ⟨_, rfl, c, dx, [], rfl, hc, rfl, _, _, _, _, rfl, fun H1 b s1 hb => ?_⟩
    exact ⟨g, c, dx, [], b, ⟨0, 0, 0, 0⟩, 0, 0, rfl, tg.same s1, s1 _ _ hc, .inl rfl, hb, fun g' H' C' O' => k g' H' C' fun x u e n => O' x u (s1 _ _ e) n⟩

theorem scChange : FnScope ["self", "changed"] ["self", "changed"] (defScope sChange) := ⟨rfl, rfl, rfl, by decide +kernel, rfl, by decide +kernel, by decide +kernel⟩
theorem ok_change {f : Addr} {fd : FuncData} (F : Fun K "change" "Course.change" sChange f fd) (T : CrsCls K W.K) (mb : ∃ t, mg "MOST_BACK" = some (.int 20 t)) : FnOk P w K mg base CX0 1 f fd ["self", "changed"] (spChange W) := by
  obtain ⟨tb, mb⟩ := mb
  refine F.ok scChange (fun vs H Q E h => ?_) (fun cdv A outer s H vs Q E hr h => ?_)
  · obtain ⟨g, c, d, a', rfl, _⟩ := h
    rfl
  · obtain ⟨g, c, d, a', rfl, ⟨dx, a, le, ll, ap, af, h⟩, p20, sa, k⟩ := h
    refine ⟨_, pss_cons (ps_fld (pv 0) (pe_slice sl_list (pe_op op_cat (pe_fld (pv 0) rfl) (pe_lst (pa_cons (pe_fld (pv 0) rfl) pa_nil))) (po_some (pe_un un_neg (pe_glob (v := .int 20) rfl mb ⟨_, rfl⟩))) po_none) rfl)
      (pss_cons (ps_fld (pv 0) (pe_lst pa_nil) rfl) (pss_one (ps_fld (pv 0) (pv 1) rfl))), ?_⟩
    have plen : ap.length ≤ 20 := by rw [h.past, List.length_map] at p20; exact p20
    refine ⟨_, rfl, c, W.K, dx, _, _, rfl, h.at_, T.cl, T.earlier, cf_earlier, _, rfl, c, W.K, dx, _, _, rfl, h.at_, T.cl, T.sea, cf_sea, (by show 1 ≤ sizeLine; decide), fun q1 hq1 => ?_⟩
    have s1 : Same H (upd H q1 (.lst [.ref a])) := same_new hq1
    refine ⟨le, q1, _, _, rfl, rfl, s1 _ _ h.er, upd_same, (by rw [List.length_map, List.length_reverse, sizeLine_eq]; show ap.length + 1 ≤ _; omega), fun q2 hq2 => ?_⟩
    rw [rev_snoc]
    have s2 : Same H (upd (upd H q1 (.lst [.ref a])) q2 (.lst ((a :: ap).reverse.map V.ref))) := s1.trans (same_new hq2)
    refine ⟨_, rfl, _, rfl, q2, _, rfl, SqL.of upd_same, fun q3 hq3 => ?_⟩
    rw [cut_back]
    have s3 := s2.trans (same_new (o := .lst (((a :: ap).take 20).reverse.map V.ref)) hq3)
    have nq3 : H q3 = none := s2.free hq3
    have e3 : (upd (upd (upd H q1 (.lst [.ref a])) q2 (.lst ((a :: ap).reverse.map V.ref))) q3 (.lst (((a :: ap).take 20).reverse.map V.ref))) q3 = some (.lst (((a :: ap).take 20).reverse.map V.ref)) := upd_same
    generalize upd (upd (upd H q1 (.lst [.ref a])) q2 (.lst ((a :: ap).reverse.map V.ref))) q3 (.lst (((a :: ap).take 20).reverse.map V.ref)) = H3 at *
    have hc3 := s3 _ _ h.at_
    refine ⟨_, rfl, c, W.K, dx, _, rfl, hc3, T.cl, T.earlier, cf_len, ?_⟩
    have ncq3 : c ≠ q3 := ne_of_none h.at_ nq3
    refine ⟨Nat.zero_le _, fun q4 hq4 => ⟨_, rfl, c, W.K, dx, cf a q3 ll, rfl, ?_, T.cl, T.later, cf_len, ?_⟩⟩
    · rw [upd_ne (ne_of_none upd_same hq4), upd_same]; rfl
    have nq4 : H3 q4 = none := upd_none hq4
    have ncq4 : c ≠ q4 := ne_of_none hc3 nq4
    have nq34 : q3 ≠ q4 := ne_of_none e3 nq4
    refine ⟨_, rfl, _, rfl, c, W.K, dx, cf a q3 q4, rfl, upd_same, T.cl, T.sea, cf_len, ?_⟩
    obtain ⟨C1, S1⟩ := h.change (a' := a') (le' := q3) (ll' := q4) (Hf := upd (upd (upd (upd H3 c (.ins W.K dx (putF "earlier" (.ref q3) (cf a le ll)))) q4 (.lst [])) c (.ins W.K dx (putF "later" (.ref q4) (cf a q3 ll)))) c (.ins W.K dx (putF "sea" (.ref a') (cf a q3 q4)))) sa
      (fun b u e n => by rw [upd_ne n, upd_ne n, upd_ne (ne_of_none (s3 _ _ e) nq4), upd_ne n]; exact s3 _ _ e) upd_same nq3 (by rw [upd_ne (Ne.symm ncq3), upd_ne (Ne.symm ncq3), upd_ne nq34, upd_ne (Ne.symm ncq3)]; exact e3) (s3.free nq4) (by rw [upd_ne (Ne.symm ncq4), upd_ne (Ne.symm ncq4), upd_same]) nq34
    exact k _ _ C1 S1

theorem scTakeBack : FnScope ["self"] ["self"] (defScope sTakeBack) := ⟨rfl, rfl, rfl, by decide +kernel, rfl, by decide +kernel, by decide +kernel⟩
theorem ok_takeBack {f : Addr} {fd : FuncData} (F : Fun K "take_back" "Course.take_back" sTakeBack f fd) (T : CrsCls K W.K) : FnOk P w K mg base CX0 1 f fd ["self"] (spTakeBack W) := by
  refine F.ok scTakeBack (fun vs H Q E h => ?_) (fun cdv A outer s H vs Q E hr h => ?_)
  · obtain ⟨g, c, d, dx, a, le, ll, x, r, af, rfl, _⟩ := h
    rfl
  · obtain ⟨g, c, d, dx, a, le, ll, x, r, af, rfl, h, l20, k⟩ := h
    obtain ⟨n1, n2, n3⟩ := h.ne
    refine ⟨_, pss_cons (ps_expr (pe_bm PySem.F.plainAttrs_list PySem.F.slot_list_append PySem.F.type_list_append mt_append (pe_fld (pv 0) rfl) (pa_cons (pe_fld (pv 0) rfl) pa_nil)))
      (pss_one (ps_fld (pv 0) (pe_bm0 PySem.F.plainAttrs_list PySem.F.slot_list_pop PySem.F.type_list_pop mt_pop (pe_fld (pv 0) rfl)) rfl)), ?_⟩
    refine ⟨_, rfl, c, W.K, dx, _, _, rfl, h.at_, T.cl, T.later, cf_later, .inl ⟨rfl, _, SqL.of h.la⟩, _, rfl, c, W.K, dx, _, _, rfl, h.at_, T.cl, T.sea, cf_sea, ll, _, _, rfl, rfl, h.la, (by rw [List.length_map, List.length_reverse, sizeLine_eq]; omega), ?_⟩
    have hc1 : (upd H ll (.lst (af.reverse.map V.ref ++ [.ref a]))) c = some (.ins W.K dx (cf a le ll)) := by rw [upd_ne n2]; exact h.at_
    have he1 : (upd H ll (.lst (af.reverse.map V.ref ++ [.ref a]))) le = some (.lst (r.reverse.map V.ref ++ [.ref x])) := by rw [upd_ne n3, h.er, rev_snoc]
    refine ⟨_, rfl, c, W.K, dx, _, _, rfl, hc1, T.cl, T.earlier, cf_earlier, .inl ⟨rfl, _, SqL.of he1⟩, le, _, .ref x, rfl, rfl, he1, (by rw [List.length_append, List.length_singleton, Nat.add_sub_cancel, List.getElem?_append_right (Nat.le_refl _), Nat.sub_self]; rfl), ?_⟩
    rw [List.dropLast_concat]
    refine ⟨_, rfl, c, W.K, dx, cf a le ll, rfl, ?_, T.cl, T.sea, cf_len, ?_⟩
    · rw [upd_ne n1]; exact hc1
    obtain ⟨C1, S1⟩ := h.back
    exact k _ C1 S1
theorem scDoAgain : FnScope ["self"] ["self"] (defScope sDoAgain) := ⟨rfl, rfl, rfl, by decide +kernel, rfl, by decide +kernel, by decide +kernel⟩
theorem ok_doAgain {f : Addr} {fd : FuncData} (F : Fun K "do_again" "Course.do_again" sDoAgain f fd) (T : CrsCls K W.K) : FnOk P w K mg base CX0 1 f fd ["self"] (spDoAgain W) := by
  refine F.ok scDoAgain (fun vs H Q E h => ?_) (fun cdv A outer s H vs Q E hr h => ?_)
  · obtain ⟨g, c, d, dx, a, le, ll, x, ap, r, rfl, _⟩ := h
    rfl
  · obtain ⟨g, c, d, dx, a, le, ll, x, ap, r, rfl, h, l20, k⟩ := h
    obtain ⟨n1, n2, n3⟩ := h.ne
    refine ⟨_, pss_cons (ps_expr (pe_bm PySem.F.plainAttrs_list PySem.F.slot_list_append PySem.F.type_list_append mt_append (pe_fld (pv 0) rfl) (pa_cons (pe_fld (pv 0) rfl) pa_nil)))
      (pss_one (ps_fld (pv 0) (pe_bm0 PySem.F.plainAttrs_list PySem.F.slot_list_pop PySem.F.type_list_pop mt_pop (pe_fld (pv 0) rfl)) rfl)), ?_⟩
    refine ⟨_, rfl, c, W.K, dx, _, _, rfl, h.at_, T.cl, T.earlier, cf_earlier, .inl ⟨rfl, _, SqL.of h.er⟩, _, rfl, c, W.K, dx, _, _, rfl, h.at_, T.cl, T.sea, cf_sea, le, _, _, rfl, rfl, h.er, (by rw [List.length_map, List.length_reverse, sizeLine_eq]; omega), ?_⟩
    have hc1 : (upd H le (.lst (ap.reverse.map V.ref ++ [.ref a]))) c = some (.ins W.K dx (cf a le ll)) := by rw [upd_ne n1]; exact h.at_
    have he1 : (upd H le (.lst (ap.reverse.map V.ref ++ [.ref a]))) ll = some (.lst (r.reverse.map V.ref ++ [.ref x])) := by rw [upd_ne (Ne.symm n3), h.la, rev_snoc]
    refine ⟨_, rfl, c, W.K, dx, _, _, rfl, hc1, T.cl, T.later, cf_later, .inl ⟨rfl, _, SqL.of he1⟩, ll, _, .ref x, rfl, rfl, he1, (by rw [List.length_append, List.length_singleton, Nat.add_sub_cancel, List.getElem?_append_right (Nat.le_refl _), Nat.sub_self]; rfl), ?_⟩
    rw [List.dropLast_concat]
    refine ⟨_, rfl, c, W.K, dx, cf a le ll, rfl, ?_, T.cl, T.sea, cf_len, ?_⟩
    · rw [upd_ne n2]; exact hc1
    obtain ⟨C1, S1⟩ := h.again
    exact k _ C1 S1
end
end Db
end
section
/-! drift.py: what all calls share. -/
set_option Elab.async false
set_option linter.all false
set_option maxRecDepth 100000
namespace Db
open PySem PySem.Spec PyProof.Rows L2
open Km444 (Box Sea Desk)

/-- what a call may lean on -/
structure En (P : Program) (w : World) (K : PySem.W.Frag) (mg : Str → Option Value) (base : Heap) (W : Cl) : Prop where
  B : Blt mg
  TB : BoxCls K W.B
  TS : SeaCls K W.S
  TK : CrsCls K W.K
  MB : BoxMk P w K mg base W.B
  told : Df P w K mg base 3 "box_told" ["given"] (spBoxTold K W.B)
  edges : Df P w K mg base 1 "edges" ["box"] (spEdges W.B)
  within : Df P w K mg base 2 "is_box_within" ["box", "limit"] (spIsBoxWithin W.B)
  amount : Df P w K mg base 1 "amount" ["box"] (spAmount W.B)
  without : Df P w K mg base 5 "without" ["boxes", "takens"] (spWithout W.B)
  narrowed : Df P w K mg base 4 "narrowed" ["boxes", "sighting"] (spNarrowed W.B)
  inAny : Df P w K mg base 2 "is_in_any" ["box", "others"] (spIsInAny W.B)
  tidy : Df P w K mg base 3 "tidy" ["boxes"] (spTidy W.B)
  round : Df P w K mg base 4 "round_all" ["boxes"] (spRoundAll W.B)
  four : Df P w K mg base 6 "at_most_four" ["boxes"] (spFour W.B)
  copied : Mth P w K mg base W.S 5 "copied" ["self"] (spCopied W)
  drift : Mth P w K mg base W.S 3 "hour_drift" ["self"] (spDrift W)
  after : Mth P w K mg base W.S 7 "boxes_after" ["self", "n"] (spAfter W)
  begin_ : Mth P w K mg base W.K 5 "begin" ["self", "box", "lo", "hi"] (spBegin W)
  change : Mth P w K mg base W.K 1 "change" ["self", "changed"] (spChange W)
  back : Mth P w K mg base W.K 1 "take_back" ["self"] (spTakeBack W)
  again : Mth P w K mg base W.K 1 "do_again" ["self"] (spDoAgain W)
  none_ : ∃ t, mg "NONE_SUCH" = some (.int (-2) t)
  na : ∃ t, mg "NOT_ALLOWED" = some (.int (-22) t)
  room : ∃ t, mg "NO_ROOM" = some (.int (-28) t)
  nowhere : ∃ t, mg "NOWHERE" = some (.int (-33) t)
  late : ∃ t, mg "TOO_LATE" = some (.int (-75) t)
  far : ∃ t, mg "FARTHEST_TOLD" = some (.int 1000000 t)
  sought : ∃ t, mg "FARTHEST_SOUGHT" = some (.int 3000000 t)
  fastC : ∃ t, mg "FASTEST_CURRENT" = some (.int 100 t)
  fastW : ∃ t, mg "FASTEST_WIND" = some (.int 1000 t)
  share : ∃ t, mg "MOST_SHARE" = some (.int 20 t)
  shores : ∃ t, mg "MOST_LANDS" = some (.int 4 t)
  hours : ∃ t, mg "MOST_HOURS" = some (.int 24 t)
  ahead : ∃ t, mg "FARTHEST_AHEAD" = some (.int 48 t)
  last : ∃ t, mg "LAST_HOUR" = some (.int 1000 t)

abbrev wmPs : List Str := ["course", "given"]
/-- what is due behind a call -/
def Due (W : Cl) (g : Gh) (H : Hp) (c : Addr) (d : Desk) (x : Km444.Call) (Q : VK) : Prop :=
  ∀ (g' : Gh) (H' : Hp) (r : Addr), Stp g g' H H' → Crs W g' H' c (Km444.act d x).1 → H r = none → H' r = some (.lst ((Km444Neutral.told (Km444.act d x).2).map V.int)) → Q (.ref r) H'
def spCall (W : Cl) (j : Nat) : Sp := fun vs H Q _ => ∃ g c gv d xs x, vs = [.ref c, .ref gv] ∧ Rl j xs x ∧ H gv = some (.lst (xs.map V.int)) ∧ Crs W g H c d ∧ DeskOk d ∧ PF d ∧ Due W g H c d x Q
theorem Stp.free_of {g g' : Gh} {H H' : Hp} (s : Stp g g' H H') {r : Addr} (h : H' r = none) : H r = none := by
  cases e : H r with
  | none => rfl
  | some u =>
    obtain ⟨u', h'⟩ := s.t r u e
    rw [h] at h'
    cases h'
theorem Due.fin {W : Cl} {g g' : Gh} {H Hl : Hp} {c r : Addr} {d d' : Desk} {x : Km444.Call} {Q : VK} {v : Int} {o : List Int} {xs : List V} (k : Due W g H c d x Q) (ea : Km444.act d x = (d', ⟨v, o⟩)) (s : Stp g g' H Hl) (C : Crs W g' Hl c d') (hr : Hl r = none) (e : xs = (v :: o).map V.int) : Q (.ref r) (upd Hl r (.lst xs)) := by
  subst e
  refine k g' _ r (s.trans (Stp.same (same_new hr))) ?_ (s.free_of hr) ?_
  · rw [ea]; exact C.same (same_new hr)
  · rw [ea]; exact upd_same

section
variable {X : Cx} {W : Cl} {x f : Str} {p p2 pos : Pos} {i : Nat}
theorem pe_gi {z : Int} (h : ∃ t, X.mg x = some (.int z t)) (hg : Gl X x := by rfl) (hd : (x == ("__debug__" : Str)) = false := by decide) : PE X (.Name x pos) (tC (.int z)) := by
  obtain ⟨t, h⟩ := h
  exact pe_glob hg h ⟨_, rfl⟩ hd
/-- course.sea.f -/
def tSF (W : Cl) (f : Str) (i : Nat) : TE := fun σ H Q => ∃ c dx a le ll dxs fs v, σ[i]? = some (some (.ref c)) ∧ H c = some (.ins W.K dx (cf a le ll)) ∧ H a = some (.ins W.S dxs fs) ∧ fs.lookup f = some v ∧ Q v H
theorem pe_sf (TK : CrsCls X.K W.K) (TS : SeaCls X.K W.S) (na : NoAttr X.K W.S f) (h : PE X (.Name x p) (tVar i)) (hb1 : attributeBase (.Name x p) "sea" X.env (eval (.Name x p) X.env) = eval (.Name x p) X.env := by rfl)
    (hb2 : attributeBase (.Attribute (.Name x p) "sea" p2) f X.env (eval (.Attribute (.Name x p) "sea" p2) X.env) = eval (.Attribute (.Name x p) "sea" p2) X.env := by rfl) :
    PE X (.Attribute (.Attribute (.Name x p) "sea" p2) f pos) (tSF W f i) :=
  pe_imp (pe_fld (pe_fld h hb1) hb2) fun σ H Q ⟨c, dx, a, le, ll, dxs, fs, v, e0, e1, e2, e3, q⟩ => ⟨_, e0, c, W.K, dx, _, _, rfl, e1, TK.cl, TK.sea, cf_sea, a, W.S, dxs, fs, v, rfl, e2, TS.cl, na, e3, q⟩
end

section
variable {K : PySem.W.Frag} {W : Cl}
/-- box = box_told(given); if not is_box_within(box, lim): return [NOT_ALLOWED] -/
theorem hd_box {D : Ends} {u : TS} {σ : L2.St} {H : Hp} {gv : Addr} {W' E S N lim : Int} {r : List Int} (h1 : σ[1]? = some (some (.ref gv))) (hg : H gv = some (.lst ((W' :: E :: S :: N :: r).map V.int)))
    (h2 : 2 < σ.length)
    (kno : Km444.okBox lim ⟨W', E, S, N⟩ = false → ∀ (H1 : Hp) (q : Addr), Same H H1 → H1 q = none → D.rt (.ref q) (upd H1 q (.lst [.int (-22)])))
    (kok : Km444.okBox lim ⟨W', E, S, N⟩ = true → ∀ (H1 : Hp) (b : Addr), Same H H1 → BoxAt W.B H1 b ⟨W', E, S, N⟩ → u D (σ.set 2 (some (.ref b))) H1) :
    tSeq (tAsg (tFn (spBoxTold K W.B) (tCons (tVar 1) tNil)) (gName 2)) (tSeq (tIfS (tNot (tB (tFn (spIsBoxWithin W.B) (tCons (tVar 2) (tCons (tC (.int lim)) tNil))))) (tRet (tLst (tCons (tC (.int (-22))) tNil))) tNext) u) D σ H := by
  refine ⟨_, h1, gv, _, _, _, _, r, rfl, SqL.of hg, fun H1 b s1 hb => ?_⟩
  refine ⟨_, (by rw [List.getElem?_set_self h2]), b, _, lim, rfl, hb, _, rfl, ?_⟩
  cases e : Km444.okBox lim ⟨W', E, S, N⟩ with
  | false => exact iteT ⟨(by show 1 ≤ sizeLine; decide), fun q hq => kno e H1 q s1 hq⟩
  | true => exact iteF (kok e H1 b s1 hb)

/-- the course and its sea, as they stand -/
structure Now (W : Cl) (g : Gh) (H : Hp) (c : Addr) (d : Desk) (dx a le ll : Addr) (ap af : List Addr) (dxs lb lL cu wi p : Addr) : Prop where
  cr : CrsP W g H c d dx a le ll ap af
  se : SeaP W g H a d.now dxs lb lL cu wi p
theorem now_of {g : Gh} {H : Hp} {c : Addr} {d : Desk} (h : Crs W g H c d) : ∃ dx a le ll ap af dxs lb lL cu wi p, Now W g H c d dx a le ll ap af dxs lb lL cu wi p := by
  obtain ⟨dx, a, le, ll, ap, af, h⟩ := h
  obtain ⟨dxs, lb, lL, cu, wi, p, q⟩ := h.sa
  exact ⟨dx, a, le, ll, ap, af, dxs, lb, lL, cu, wi, p, h, by rw [h.now]; exact q⟩
theorem Now.same {g : Gh} {H H' : Hp} {c : Addr} {d : Desk} {dx a le ll : Addr} {ap af : List Addr} {dxs lb lL cu wi p : Addr} (h : Now W g H c d dx a le ll ap af dxs lb lL cu wi p) (s : Same H H') : Now W g H' c d dx a le ll ap af dxs lb lL cu wi p := ⟨h.cr.same s, h.se.same s⟩
theorem Now.crs {g : Gh} {H : Hp} {c : Addr} {d : Desk} {dx a le ll : Addr} {ap af : List Addr} {dxs lb lL cu wi p : Addr} (h : Now W g H c d dx a le ll ap af dxs lb lL cu wi p) : Crs W g H c d := ⟨_, _, _, _, _, _, h.cr⟩

/-- course.change(changed): the sea that was copied and then changed -/
theorem chg_of {g : Gh} {Hb H2 : Hp} {c dx a le ll : Addr} {d : Desk} {ap af : List Addr} {a' dx' lb' ll' cu' wi' p' : Addr} {s' : Sea} {Q : VK} (h : CrsP W g Hb c d dx a le ll ap af) (sm : Same Hb H2) (na : Hb a' = none) (np : Hb p' = none)
    (ea : H2 a' = some (.ins W.S dx' (sf s'.hour lb' ll' cu' wi' s'.seen s'.lo s'.hi p'))) (ep : H2 p' = some (.lst []))
    (hb : LstO W g H2 lb' s'.boxes) (nb : lb' ≠ p') (hl : LstO W g H2 ll' s'.lands) (nl : ll' ≠ p') (hc : BoxAt W.B H2 cu' s'.current) (hw : BoxAt W.B H2 wi' s'.wind) (p20 : d.past.length ≤ 20)
    (kq : ∀ (g' : Gh) (H' : Hp), Crs W g' H' c (d.become s') → Stp g g' Hb H' → (∀ b u, H2 b = some u → g.O b = none → b ≠ p' → H' b = some u) → Q .non H') : spChange W [.ref c, .ref a'] H2 Q E0 := by
  obtain ⟨C2, S2, T2⟩ := h.newSea sm na np ea ep hb nb hl nl hc hw
  have eS : ((g.tag p' (a', 0)).sea a' s').S a' = s' := Gh.sea_at
  refine ⟨_, c, d, a', rfl, ⟨_, _, _, _, _, _, C2⟩, p20, by rw [eS]; exact S2, fun g' H' C' T' => kq g' H' (by rw [eS] at C'; exact C') (T2.trans T') fun b u e n nb => T'.k b u e fun t ht => ?_⟩
  have : (g.tag p' (a', 0)).O b = some t := ht
  rw [Gh.tag_ne nb, n] at this
  cases this

theorem emp_of {C : Addr} {H : Hp} {as : List Addr} {bs : List Box} (h : Bxs C H as bs) : (as.map V.ref).isEmpty = bs.isEmpty := by cases h <;> rfl
theorem seaBd {d : Desk} (ok : DeskOk d) {b : Box} (h : Bd (edge d.now.hour) b) : Bd 100000000 b := h.mono (by have := ok.now.hr; unfold edge; omega)
theorem OffC.stp {g g' : Gh} {H H' : Hp} {c : Addr} (h : OffC g g' H H' c) (hc : g.O c = some (c, 3)) (hc' : g'.O c = some (c, 3)) (t : ∃ u, H' c = some u) : Stp g g' H H' where
  o := fun b u e => by
    by_cases n : b = c
    · subst n; rw [hc, hc']
    · exact (h b u e n).1
  t := fun b u e => by
    by_cases n : b = c
    · subst n; exact t
    · exact ⟨u, (h b u e n).2⟩
  k := fun b u e n => by
    refine (h b u e fun z => ?_).2
    subst z
    have := n _ hc
    cases this
end
end Db
end
section
/-! drift.py: wm_start, wm_land, wm_current, wm_wind. -/
set_option Elab.async false
set_option linter.all false
set_option maxRecDepth 100000
namespace Db
open PySem PySem.Spec PyProof.Rows L2
open Km444 (Box Sea Desk)
abbrev sStart : Stmt := top 44
abbrev sLand : Stmt := top 45
abbrev sCurrent : Stmt := top 46
abbrev sWind : Stmt := top 47
section
variable {P : Program} {w : World} {K : PySem.W.Frag} {mg : Str → Option Value} {base : Heap} {W : Cl}
theorem len_call {j : Nat} {vs : List V} {H : Hp} {Q : VK} {E : XK} (h : spCall W j vs H Q E) : vs.length = wmPs.length := by
  obtain ⟨g, c, gv, d, xs, x, rfl, _⟩ := h
  rfl

theorem scStart : FnScope ["course", "given", "box", "lo", "hi"] wmPs (defScope sStart) := ⟨rfl, rfl, rfl, by decide +kernel, rfl, by decide +kernel, by decide +kernel⟩
theorem ok_start {f : Addr} {fd : FuncData} (F : Fun K "wm_start" "wm_start" sStart f fd) (E : En P w K mg base W) : FnOk P w K mg base CX0 8 f fd wmPs (spCall W 0) := by
  refine F.ok scStart (fun vs H Q E h => len_call h) (fun cdv A outer s H vs Q X hr h => ?_)
  obtain ⟨g, c, gv, d, xs, x, rfl, R, hg, C, ok, pf, k⟩ := h
  cases R with
  | c0 west east south north lo hi =>
  have hr2 : Room 2 _ := hr.mono (by decide)
  have hr3 : Room 3 _ := hr.mono (by decide)
  have hr5 : Room 5 _ := hr.mono (by decide)
  refine ⟨_, pss_cons (ps_set (i := 2) scStart.nd rfl (Or.inl rfl) (pe_fn E.told hr3 (pa_cons (pv 1) pa_nil))) (pss_cons (ps_set (i := 3) scStart.nd rfl (Or.inl rfl) (pe_ix ix_list (pv 1) pe_int (fun _ _ => rfl)))
    (pss_cons (ps_set (i := 4) scStart.nd rfl (Or.inl rfl) (pe_ix ix_list (pv 1) pe_int (fun _ _ => rfl)))
    (pss_cons (ps_if (pw_or (pt_not (pt_val (pe_fn E.within hr2 (pa_cons (pv 2) (pa_cons (pe_gi E.far) pa_nil))))) (pw_or (pt_cmpR op_gt (pv 3) (pv 4) (nomark _)) (pw_or1 (pt_cmpR op_gt (pv 4) (pe_gi E.share) (nomark _))))).pt (pss_one (ps_ret (pe_lst (pa_cons (pe_gi E.na) pa_nil)))) pss_nil)
    (pss_cons (ps_expr (pe_mth E.begin_ E.TK.cl (pv 0) hr5 (pa_cons (pv 2) (pa_cons (pv 3) (pa_cons (pv 4) pa_nil))))) (pss_one (ps_ret (pe_lst (pa_cons pe_int pa_nil)))))))), ?_⟩
  obtain ⟨dx, a, le, ll, ap, af, dxs, lb, lL, cu, wi, p, N⟩ := now_of C
  refine ⟨_, rfl, gv, _, _, _, _, [(lo : Int), (hi : Int)], rfl, SqL.of hg, fun H1 b s1 hb => ?_⟩
  have hg1 := s1 _ _ hg
  have N1 := N.same s1
  refine ⟨_, rfl, gv, _, _, _, rfl, rfl, SqL.of hg1, at_of (j := 4) rfl rfl, _, rfl, gv, _, _, _, rfl, rfl, SqL.of hg1, at_of (j := 5) rfl rfl, ?_⟩
  have no : Km444.okStart ⟨west, east, south, north⟩ lo hi = false → ∀ q, H1 q = none → Q (.ref q) (upd H1 q (.lst [.int (-22)])) := fun h q hq => by
    have ea : Km444.act d (.start west east south north lo hi) = (d, ⟨-22, []⟩) := by show (if _ then _ else _) = _; rw [if_pos h]; rfl
    exact k.fin ea (Stp.same s1) N1.crs hq rfl
  refine ⟨_, rfl, b, _, _, rfl, hb, _, rfl, ?_⟩
  have os : Km444.okStart ⟨west, east, south, north⟩ lo hi = (Km444.okBox 1000000 ⟨west, east, south, north⟩ && (decide (lo ≤ hi) && decide (hi ≤ 20))) := rfl
  cases e1 : Km444.okBox 1000000 ⟨west, east, south, north⟩ with
  | false => exact iteT (iteT ⟨(by show 1 ≤ sizeLine; decide), no (by rw [os, e1]; rfl)⟩)
  | true =>
  refine iteF ⟨_, rfl, _, rfl, _, _, rfl, rfl, _, rfl, ite2 (fun e2 => ?_) (fun e2 => ⟨_, rfl, _, _, rfl, rfl, _, rfl, ite2 (fun e3 => ?_) (fun e3 => ?_)⟩)⟩
  · have : ¬ lo ≤ hi := by have := of_decide_eq_true e2; omega
    exact iteT ⟨(by show 1 ≤ sizeLine; decide), no (by rw [os, e1, decide_eq_false this]; rfl)⟩
  · have : ¬ hi ≤ 20 := by have := of_decide_eq_true e3; omega
    exact ⟨(by show 1 ≤ sizeLine; decide), no (by rw [os, decide_eq_false this, Bool.and_false, Bool.and_false])⟩
  · have h2 : lo ≤ hi := by
      have : ¬ (hi : Int) < (lo : Int) := fun z => e2 (decide_eq_true z)
      omega
    have h3 : hi ≤ 20 := by
      have : ¬ (20 : Int) < (hi : Int) := fun z => e3 (decide_eq_true z)
      omega
    have ea : Km444.act d (.start west east south north lo hi) = (Km444.fresh ⟨west, east, south, north⟩ lo hi, ⟨0, []⟩) := by
      show (if _ then _ else _) = _
      rw [if_neg (by rw [os, e1, decide_eq_true h2, decide_eq_true h3]; decide)]
      rfl
    refine ⟨_, rfl, c, dx, _, rfl, N1.cr.at_, cf_begin, _, rfl, _, rfl, _, rfl, g, c, dx, _, b, _, lo, hi, rfl, N1.cr.tg, N1.cr.at_, .inr ⟨_, _, _, rfl⟩, hb, fun g' H' C' O' => ?_⟩
    refine ⟨(by show 1 ≤ sizeLine; decide), fun q hq => ?_⟩
    obtain ⟨dx2, a2, le2, ll2, ap2, af2, C2⟩ := C'
    have S1 : Stp g g' H1 H' := O'.stp N1.cr.tc C2.tc ⟨_, C2.at_⟩
    exact k.fin ea ((Stp.same s1).trans S1) ⟨_, _, _, _, _, _, C2⟩ hq rfl

theorem scLand : FnScope ["course", "given", "land", "lands", "left", "changed"] wmPs (defScope sLand) := ⟨rfl, rfl, rfl, by decide +kernel, rfl, by decide +kernel, by decide +kernel⟩
theorem ok_land {f : Addr} {fd : FuncData} (F : Fun K "wm_land" "wm_land" sLand f fd) (E : En P w K mg base W) : FnOk P w K mg base CX0 8 f fd wmPs (spCall W 1) := by
  refine F.ok scLand (fun vs H Q E h => len_call h) (fun cdv A outer s H vs Q X hr h => ?_)
  obtain ⟨g, c, gv, d, xs, x, rfl, R, hg, C, ok, pf, k⟩ := h
  cases R with
  | c1 west east south north =>
  have hr1 : Room 1 _ := hr.mono (by decide)
  have hr2 : Room 2 _ := hr.mono (by decide)
  have hr3 : Room 3 _ := hr.mono (by decide)
  have hr5 : Room 5 _ := hr.mono (by decide)
  have hr6 : Room 6 _ := hr.mono (by decide)
  refine ⟨_, (pss_cons (ps_set (i := 2) scLand.nd rfl (Or.inl rfl) (pe_fn E.told hr3 (pa_cons (pv 1) pa_nil))) (pss_cons (ps_if (pt_not (pt_val (pe_fn E.within hr2 (pa_cons (pv 2) (pa_cons (pe_gi E.far) pa_nil))))) (pss_one (ps_ret (pe_lst (pa_cons (pe_gi E.na) pa_nil)))) pss_nil) (pss_cons (ps_if (pt_cmpR op_eq (pe_callB call_len_seq rfl E.B.len PySem.boot_len (pa_cons (pe_sf E.TK E.TS E.TS.lands (pv 0)) pa_nil)) (pe_gi E.shores) (nomark _)) (pss_one (ps_ret (pe_lst (pa_cons (pe_gi E.room) pa_nil)))) pss_nil)
    (pss_cons (ps_set (i := 3) scLand.nd rfl (Or.inl rfl) (pe_op op_cat (pe_sf E.TK E.TS E.TS.lands (pv 0)) (pe_lst (pa_cons (pv 2) pa_nil))))
    (pss_cons (ps_set (i := 4) scLand.nd rfl (Or.inl rfl) (pe_fn E.without hr5 (pa_cons (pe_sf E.TK E.TS E.TS.boxes (pv 0)) (pa_cons (pv 3) pa_nil))))
    (pss_cons (ps_if (pt_not (pt_truth (pv 4) (fun _ => rfl))) (pss_one (ps_ret (pe_lst (pa_cons (pe_gi E.nowhere) pa_nil)))) pss_nil)
    (pss_cons (ps_set (i := 5) scLand.nd rfl (Or.inl rfl) (pe_mth0 E.copied E.TS.cl (pe_fld (pv 0) rfl) hr5))
    (pss_cons (ps_fld (pv 5) (pv 3) rfl)
    (pss_cons (ps_fld (pv 5) (pe_fn E.four hr6 (pa_cons (pv 4) pa_nil)) rfl)
    (pss_cons (ps_expr (pe_mth E.change E.TK.cl (pv 0) hr1 (pa_cons (pv 5) pa_nil)))
    (pss_one (ps_ret (pe_lst (pa_cons (pe_op op_sub (pe_callB call_len_seq rfl E.B.len PySem.boot_len (pa_cons (pv 3) pa_nil)) pe_int) pa_nil)))))))))))))), ?_⟩
  obtain ⟨dx, a, le, ll, ap, af, dxs, lb, lL, cu, wi, p, N⟩ := now_of C
  refine hd_box (K := K) (W := W) (lim := 1000000) rfl hg (by show 2 < 6; decide) (fun h H1 q s1 hq => ?_) (fun h1 H1 b s1 hb => ?_)
  · have ea : Km444.act d (.land west east south north) = (d, ⟨-22, []⟩) := by show (if _ then _ else _) = _; rw [if_pos (show Km444.okBox Km444.FAR ⟨west, east, south, north⟩ = false from h)]; rfl
    exact k.fin ea (Stp.same s1) (C.same s1) hq rfl
  have N1 := N.same s1
  obtain ⟨n0, asL, eL, hBL⟩ := N1.se.ld
  have lenL : asL.length = d.now.lands.length := hBL.len
  refine ⟨c, dx, a, le, ll, dxs, _, _, rfl, N1.cr.at_, N1.se.at_, sf_lands, lL, _, rfl, .inl (SqL.of eL), rfl, _, rfl, ?_⟩
  refine ite2 (fun h2 => ⟨(by show 1 ≤ sizeLine; decide), fun q hq => ?_⟩) (fun h2 => ?_)
  · have h4 : Km444.SHORES ≤ d.now.lands.length := by
      have := of_decide_eq_true h2
      rw [List.length_map, lenL] at this
      injection this with this
      show 4 ≤ _
      omega
    have ea : Km444.act d (.land west east south north) = (d, ⟨-28, []⟩) := by show (if _ then _ else if _ then _ else _) = _; rw [if_neg (by rw [show Km444.okBox Km444.FAR ⟨west, east, south, north⟩ = true from h1]; decide), if_pos h4]; rfl
    exact k.fin ea (Stp.same s1) N1.crs hq rfl
  have h4 : ¬ Km444.SHORES ≤ d.now.lands.length := fun z => h2 (decide_eq_true (by
    rw [List.length_map, lenL]
    have := ok.now.l4
    have z : 4 ≤ d.now.lands.length := z
    have e : d.now.lands.length = 4 := by omega
    rw [e]; rfl))
  have h4' : d.now.lands.length < 4 := Nat.lt_of_not_le h4
  refine ⟨c, dx, a, le, ll, dxs, _, _, rfl, N1.cr.at_, N1.se.at_, sf_lands, _, rfl, (by show 1 ≤ sizeLine; decide), fun q1 hq1 => ?_⟩
  have s2 : Same H1 (upd H1 q1 (.lst [.ref b])) := same_new hq1
  refine ⟨lL, q1, _, _, rfl, rfl, s2 _ _ eL, upd_same, (by rw [List.length_map, lenL, sizeLine_eq]; show _ + 1 ≤ _; omega), fun q2 hq2 => ?_⟩
  have s3 := s2.trans (same_new (o := .lst (asL.map V.ref ++ [.ref b])) hq2)
  have e2 : (upd (upd H1 q1 (.lst [.ref b])) q2 (.lst (asL.map V.ref ++ [.ref b]))) q2 = some (.lst ((asL ++ [b]).map V.ref)) := by rw [upd_same, List.map_append]; rfl
  have nq2 : g.O q2 = none := (N1.cr.tg.same s2).new hq2
  generalize upd (upd H1 q1 (.lst [.ref b])) q2 (.lst (asL.map V.ref ++ [.ref b])) = H3 at *
  have N3 := N1.same s3
  have hL3 : LstAt W.B H3 q2 (d.now.lands ++ [⟨west, east, south, north⟩]) := ⟨asL ++ [b], e2, (Bxs.same s3 hBL).append (.one (hb.same s3))⟩
  have len3 : (d.now.lands ++ [(⟨west, east, south, north⟩ : Box)]).length ≤ 4 := by rw [List.length_append, List.length_singleton]; omega
  have l8 : d.now.boxes.length ≤ 8 := by have := ok.now.le4; omega
  refine ⟨c, dx, a, le, ll, dxs, _, _, rfl, N3.cr.at_, N3.se.at_, sf_boxes, _, rfl, lb, q2, _, _, rfl, N3.se.bx.2, hL3, l8, len3, fun H4 q4 s4 hL4 => ?_⟩
  have N4 := N3.same s4
  obtain ⟨as4, e4, hB4⟩ := hL4
  refine ⟨_, rfl, _, .inl ⟨_, SqL.of e4, rfl⟩, ?_⟩
  have emp : (as4.map V.ref).isEmpty = (Km444.dry (d.now.lands ++ [(⟨west, east, south, north⟩ : Box)]) d.now.boxes).isEmpty := emp_of hB4
  cases h5 : (Km444.dry (d.now.lands ++ [(⟨west, east, south, north⟩ : Box)]) d.now.boxes).isEmpty with
  | true =>
    rw [emp, h5]
    refine iteT ⟨(by show 1 ≤ sizeLine; decide), fun q hq => ?_⟩
    have h5' : Km444.dry (d.now.lands ++ [⟨west, east, south, north⟩]) d.now.boxes = [] := List.isEmpty_iff.mp h5
    have ea : Km444.act d (.land west east south north) = (d, ⟨-33, []⟩) := by show (if _ then _ else if _ then _ else if _ then _ else _) = _; rw [if_neg (by rw [show Km444.okBox Km444.FAR ⟨west, east, south, north⟩ = true from h1]; decide), if_neg h4, if_pos h5']; rfl
    exact k.fin ea (Stp.same (s1.trans (s3.trans s4))) N4.crs hq rfl
  | false =>
  rw [emp, h5]
  refine iteF ?_
  have h5' : ¬ Km444.dry (d.now.lands ++ [⟨west, east, south, north⟩]) d.now.boxes = [] := fun z => by rw [z] at h5; cases h5
  have ea : Km444.act d (.land west east south north) = (d.become { d.now with lands := d.now.lands ++ [⟨west, east, south, north⟩], boxes := Km444.squeezed (Km444.dry (d.now.lands ++ [⟨west, east, south, north⟩]) d.now.boxes) }, ⟨(d.now.lands.length : Nat), []⟩) := by
    show (if _ then _ else if _ then _ else if _ then _ else _) = _
    rw [if_neg (by rw [show Km444.okBox Km444.FAR ⟨west, east, south, north⟩ = true from h1]; decide), if_neg h4, if_neg h5']
    rfl
  refine ⟨_, rfl, c, W.K, dx, _, _, rfl, N4.cr.at_, E.TK.cl, E.TK.sea, cf_sea, a, dxs, _, rfl, N4.se.at_, sf_copied, g, a, d.now, dxs, lb, lL, cu, wi, p, rfl, N4.se, fun H5 a' dx' p' s5 na e5 np ep => ?_⟩
  refine ⟨_, rfl, _, rfl, a', W.S, dx', _, rfl, e5, E.TS.cl, E.TS.lands, sf_len, ?_⟩
  have e6 : (upd H5 a' (.ins W.S dx' (putF "lands" (.ref q2) (sf d.now.hour lb lL cu wi d.now.seen d.now.lo d.now.hi p')))) a' = some (.ins W.S dx' (sf d.now.hour lb q2 cu wi d.now.seen d.now.lo d.now.hi p')) := upd_same
  have p6 := lst_updI (o := .ins W.S dx' (putF "lands" (.ref q2) (sf d.now.hour lb lL cu wi d.now.seen d.now.lo d.now.hi p'))) ep e5
  have s6 : Same H4 (upd H5 a' (.ins W.S dx' (putF "lands" (.ref q2) (sf d.now.hour lb lL cu wi d.now.seen d.now.lo d.now.hi p')))) := Same.upd_new s5 na
  generalize upd H5 a' (.ins W.S dx' (putF "lands" (.ref q2) (sf d.now.hour lb lL cu wi d.now.seen d.now.lo d.now.hi p'))) = H6 at *
  have bd4 : ∀ x ∈ Km444.dry (d.now.lands ++ [(⟨west, east, south, north⟩ : Box)]) d.now.boxes, Bd 100000000 x := fun x hx => (dry_bd ok.now.bd x hx).mono (by have := ok.now.hr; unfold edge; omega)
  refine ⟨_, rfl, q4, _, rfl, ⟨as4, s6 _ _ e4, Bxs.same s6 hB4⟩, dry_len8 len3 l8, bd4, fun H7 q7 s7 n7 hL7 => ?_⟩
  refine ⟨_, rfl, a', W.S, dx', _, rfl, s7 _ _ e6, E.TS.cl, E.TS.boxes, sf_len, ?_⟩
  have s47 : Same H4 (upd H7 a' (.ins W.S dx' (putF "boxes" (.ref q7) (sf d.now.hour lb q2 cu wi d.now.seen d.now.lo d.now.hi p')))) := Same.upd_new (s6.trans s7) na
  have nq7 : g.O q7 = none := (N4.cr.tg.same s6).new n7
  have nq7p : q7 ≠ p' := fun z => by rw [z, p6] at n7; cases n7
  have nq2p : q2 ≠ p' := ne_of_none (s4 _ _ e2) np
  have ha7 := s7 _ _ e6
  have hL8 : LstO W g (upd H7 a' (.ins W.S dx' (putF "boxes" (.ref q7) (sf d.now.hour lb q2 cu wi d.now.seen d.now.lo d.now.hi p')))) q7 (Km444.squeezed (Km444.dry (d.now.lands ++ [⟨west, east, south, north⟩]) d.now.boxes)) := by
    obtain ⟨as7, e7, hB7⟩ := hL7
    exact ⟨nq7, as7, lst_updI e7 ha7, hB7.imp fun _ _ h => h.updI ha7⟩
  have N8 := N4.same s47
  refine ⟨_, rfl, c, dx, _, rfl, N8.cr.at_, cf_change, _, rfl, ?_⟩
  dsimp only [tNil]
  refine chg_of (s' := { d.now with lands := d.now.lands ++ [⟨west, east, south, north⟩], boxes := Km444.squeezed (Km444.dry (d.now.lands ++ [⟨west, east, south, north⟩]) d.now.boxes) }) N4.cr s47 na np upd_same (lst_updI (s7 _ _ p6) ha7) hL8 nq7p ⟨nq2, hL3.same (s4.trans s47)⟩ nq2p N8.se.cu N8.se.wi ok.p20 fun g' H' C' S' fx => ?_
  have e9 := fx _ _ (s47 _ _ (s4 _ _ e2)) nq2 nq2p
  refine ⟨_, rfl, q2, _, rfl, .inl (SqL.of e9), _, _, rfl, rfl, (by show 1 ≤ sizeLine; decide), fun r hr => ?_⟩
  refine k.fin ea ((Stp.same (s1.trans (s3.trans s4))).trans S') C' hr ?_
  rw [List.length_map, List.length_append, List.length_singleton, lenL]
  have e : (((d.now.lands.length + 1 : Nat) : Int) - 1) = (d.now.lands.length : Int) := by omega
  show [V.int (((d.now.lands.length + 1 : Nat) : Int) - 1)] = [V.int (d.now.lands.length : Int)]
  rw [e]
end
end Db
end
section
/-! drift.py: wm_current, wm_wind, are_hours, wm_hours. -/
set_option Elab.async false
set_option linter.all false
set_option maxRecDepth 100000
namespace Db
open PySem PySem.Spec PyProof.Rows L2
open Km444 (Box Sea Desk)
abbrev sAreHours : Stmt := top 48
abbrev sHours : Stmt := top 49
def spAreHours : Sp := fun vs H Q _ => ∃ n : Int, vs = [.int n] ∧ Q (.bl (decide (1 ≤ n) && decide (n ≤ 24))) H
section
variable {P : Program} {w : World} {K : PySem.W.Frag} {mg : Str → Option Value} {base : Heap} {W : Cl}
theorem fx_box {g : Gh} {Hb H2 H' : Hp} {p' cu : Addr} {b : Box} (fx : ∀ b u, H2 b = some u → g.O b = none → b ≠ p' → H' b = some u) (T : Tg W g Hb) (sm : Same Hb H2) (np : Hb p' = none) (h : BoxAt W.B Hb cu b) : BoxAt W.B H' cu b := by
  have n := T.box h
  obtain ⟨dx, e⟩ := h
  exact ⟨dx, fx _ _ (sm _ _ e) n (ne_of_none e np)⟩
theorem LstO.ne {g : Gh} {Hb : Hp} {l p' : Addr} {bs : List Box} (h : LstO W g Hb l bs) (np : Hb p' = none) : l ≠ p' := let ⟨_, e⟩ := h.track; ne_of_none e np
theorem Now.aft {g : Gh} {H H' : Hp} {c : Addr} {d : Desk} {dx a le ll : Addr} {ap af : List Addr} {dxs lb lL cu wi p : Addr} (h : Now W g H c d dx a le ll ap af dxs lb lL cu wi p) (q : Aft W g a H H') : ∃ dxs lb lL cu wi p, Now W g H' c d dx a le ll ap af dxs lb lL cu wi p := by
  obtain ⟨dxs, lb, lL, cu, wi, p, se⟩ := q.sea
  exact ⟨dxs, lb, lL, cu, wi, p, h.cr.aft q, by rw [h.cr.now]; exact se⟩

theorem scCurrent : FnScope ["course", "given", "told", "before", "changed"] wmPs (defScope sCurrent) := ⟨rfl, rfl, rfl, by decide +kernel, rfl, by decide +kernel, by decide +kernel⟩
theorem ok_current {f : Addr} {fd : FuncData} (F : Fun K "wm_current" "wm_current" sCurrent f fd) (E : En P w K mg base W) : FnOk P w K mg base CX0 8 f fd wmPs (spCall W 2) := by
  refine F.ok scCurrent (fun vs H Q E h => len_call h) (fun cdv A outer s H vs Q X hr h => ?_)
  obtain ⟨g, c, gv, d, xs, x, rfl, R, hg, C, ok, pf, k⟩ := h
  cases R with
  | c2 west east south north =>
  have hr1 : Room 1 _ := hr.mono (by decide)
  have hr2 : Room 2 _ := hr.mono (by decide)
  have hr3 : Room 3 _ := hr.mono (by decide)
  have hr5 : Room 5 _ := hr.mono (by decide)
  refine ⟨_, (pss_cons (ps_set (i := 2) scCurrent.nd rfl (Or.inl rfl) (pe_fn E.told hr3 (pa_cons (pv 1) pa_nil))) (pss_cons (ps_if (pt_not (pt_val (pe_fn E.within hr2 (pa_cons (pv 2) (pa_cons (pe_gi E.fastC) pa_nil))))) (pss_one (ps_ret (pe_lst (pa_cons (pe_gi E.na) pa_nil)))) pss_nil) (pss_cons (ps_set (i := 3) scCurrent.nd rfl (Or.inl rfl) (pe_sf E.TK E.TS E.TS.current (pv 0)))
    (pss_cons (ps_set (i := 4) scCurrent.nd rfl (Or.inl rfl) (pe_mth0 E.copied E.TS.cl (pe_fld (pv 0) rfl) hr5))
    (pss_cons (ps_fld (pv 4) (pv 2) rfl)
    (pss_cons (ps_expr (pe_mth E.change E.TK.cl (pv 0) hr1 (pa_cons (pv 4) pa_nil)))
    (pss_one (ps_ret (pe_op op_cat (pe_lst (pa_cons pe_int pa_nil)) (pe_fn E.edges hr1 (pa_cons (pv 3) pa_nil))))))))))), ?_⟩
  obtain ⟨dx, a, le, ll, ap, af, dxs, lb, lL, cu, wi, p, N⟩ := now_of C
  refine hd_box (K := K) (W := W) (lim := 100) rfl hg (by show 2 < 5; decide) (fun h H1 q s1 hq => ?_) (fun h1 H1 b s1 hb => ?_)
  · have ea : Km444.act d (.current west east south north) = (d, ⟨-22, []⟩) := by show (if _ then _ else _) = _; rw [if_pos h]; rfl
    exact k.fin ea (Stp.same s1) (C.same s1) hq rfl
  have N1 := N.same s1
  have ea : Km444.act d (.current west east south north) = (d.become { d.now with current := ⟨west, east, south, north⟩ }, ⟨0, d.now.current.told⟩) := by show (if _ then _ else _) = _; rw [if_neg (by rw [h1]; decide)]
  refine ⟨c, dx, a, le, ll, dxs, _, _, rfl, N1.cr.at_, N1.se.at_, sf_current, ?_⟩
  refine ⟨_, rfl, c, W.K, dx, _, _, rfl, N1.cr.at_, E.TK.cl, E.TK.sea, cf_sea, a, dxs, _, rfl, N1.se.at_, sf_copied, g, a, d.now, dxs, lb, lL, cu, wi, p, rfl, N1.se, fun H5 a' dx' p' s5 na e5 np ep => ?_⟩
  refine ⟨_, rfl, _, rfl, a', W.S, dx', _, rfl, e5, E.TS.cl, E.TS.current, sf_len, ?_⟩
  have s16 : Same H1 (upd H5 a' (.ins W.S dx' (putF "current" (.ref b) (sf d.now.hour lb lL cu wi d.now.seen d.now.lo d.now.hi p')))) := Same.upd_new s5 na
  have N6 := N1.same s16
  refine ⟨_, rfl, c, dx, _, rfl, N6.cr.at_, cf_change, _, rfl, ?_⟩
  dsimp only [tNil]
  refine chg_of (s' := { d.now with current := ⟨west, east, south, north⟩ }) N1.cr s16 na np upd_same (lst_updI ep e5) N6.se.bx (N1.se.bx.ne np) N6.se.ld (N1.se.ld.ne np) (hb.same s16) N6.se.wi ok.p20 fun g' H' C' S' fx => ?_
  have hcu := fx_box fx N1.cr.tg s16 np N1.se.cu
  refine ⟨(by show 1 ≤ sizeLine; decide), fun q1 hq1 => ⟨_, rfl, cu, _, rfl, hcu.same (same_new hq1), fun H9 r9 s9 e9 => ?_⟩⟩
  refine ⟨q1, r9, _, _, rfl, rfl, s9 _ _ upd_same, e9, (by show 1 + 4 ≤ sizeLine; decide), fun r hr => ?_⟩
  have s10 := (same_new (o := .lst [.int 0]) hq1).trans s9
  exact k.fin ea ((Stp.same s1).trans (S'.trans (Stp.same s10))) (C'.same s10) hr rfl

theorem scWind : FnScope ["course", "given", "told", "before", "changed"] wmPs (defScope sWind) := ⟨rfl, rfl, rfl, by decide +kernel, rfl, by decide +kernel, by decide +kernel⟩
theorem ok_wind {f : Addr} {fd : FuncData} (F : Fun K "wm_wind" "wm_wind" sWind f fd) (E : En P w K mg base W) : FnOk P w K mg base CX0 8 f fd wmPs (spCall W 3) := by
  refine F.ok scWind (fun vs H Q E h => len_call h) (fun cdv A outer s H vs Q X hr h => ?_)
  obtain ⟨g, c, gv, d, xs, x, rfl, R, hg, C, ok, pf, k⟩ := h
  cases R with
  | c3 west east south north =>
  have hr1 : Room 1 _ := hr.mono (by decide)
  have hr2 : Room 2 _ := hr.mono (by decide)
  have hr3 : Room 3 _ := hr.mono (by decide)
  have hr5 : Room 5 _ := hr.mono (by decide)
  refine ⟨_, (pss_cons (ps_set (i := 2) scWind.nd rfl (Or.inl rfl) (pe_fn E.told hr3 (pa_cons (pv 1) pa_nil))) (pss_cons (ps_if (pt_not (pt_val (pe_fn E.within hr2 (pa_cons (pv 2) (pa_cons (pe_gi E.fastW) pa_nil))))) (pss_one (ps_ret (pe_lst (pa_cons (pe_gi E.na) pa_nil)))) pss_nil) (pss_cons (ps_set (i := 3) scWind.nd rfl (Or.inl rfl) (pe_sf E.TK E.TS E.TS.wind (pv 0)))
    (pss_cons (ps_set (i := 4) scWind.nd rfl (Or.inl rfl) (pe_mth0 E.copied E.TS.cl (pe_fld (pv 0) rfl) hr5))
    (pss_cons (ps_fld (pv 4) (pv 2) rfl)
    (pss_cons (ps_expr (pe_mth E.change E.TK.cl (pv 0) hr1 (pa_cons (pv 4) pa_nil)))
    (pss_one (ps_ret (pe_op op_cat (pe_lst (pa_cons pe_int pa_nil)) (pe_fn E.edges hr1 (pa_cons (pv 3) pa_nil))))))))))), ?_⟩
  obtain ⟨dx, a, le, ll, ap, af, dxs, lb, lL, cu, wi, p, N⟩ := now_of C
  refine hd_box (K := K) (W := W) (lim := 1000) rfl hg (by show 2 < 5; decide) (fun h H1 q s1 hq => ?_) (fun h1 H1 b s1 hb => ?_)
  · have ea : Km444.act d (.wind west east south north) = (d, ⟨-22, []⟩) := by show (if _ then _ else _) = _; rw [if_pos h]; rfl
    exact k.fin ea (Stp.same s1) (C.same s1) hq rfl
  have N1 := N.same s1
  have ea : Km444.act d (.wind west east south north) = (d.become { d.now with wind := ⟨west, east, south, north⟩ }, ⟨0, d.now.wind.told⟩) := by show (if _ then _ else _) = _; rw [if_neg (by rw [h1]; decide)]
  refine ⟨c, dx, a, le, ll, dxs, _, _, rfl, N1.cr.at_, N1.se.at_, sf_wind, ?_⟩
  refine ⟨_, rfl, c, W.K, dx, _, _, rfl, N1.cr.at_, E.TK.cl, E.TK.sea, cf_sea, a, dxs, _, rfl, N1.se.at_, sf_copied, g, a, d.now, dxs, lb, lL, cu, wi, p, rfl, N1.se, fun H5 a' dx' p' s5 na e5 np ep => ?_⟩
  refine ⟨_, rfl, _, rfl, a', W.S, dx', _, rfl, e5, E.TS.cl, E.TS.wind, sf_len, ?_⟩
  have s16 : Same H1 (upd H5 a' (.ins W.S dx' (putF "wind" (.ref b) (sf d.now.hour lb lL cu wi d.now.seen d.now.lo d.now.hi p')))) := Same.upd_new s5 na
  have N6 := N1.same s16
  refine ⟨_, rfl, c, dx, _, rfl, N6.cr.at_, cf_change, _, rfl, ?_⟩
  dsimp only [tNil]
  refine chg_of (s' := { d.now with wind := ⟨west, east, south, north⟩ }) N1.cr s16 na np upd_same (lst_updI ep e5) N6.se.bx (N1.se.bx.ne np) N6.se.ld (N1.se.ld.ne np) N6.se.cu (hb.same s16) ok.p20 fun g' H' C' S' fx => ?_
  have hcu := fx_box fx N1.cr.tg s16 np N1.se.wi
  refine ⟨(by show 1 ≤ sizeLine; decide), fun q1 hq1 => ⟨_, rfl, wi, _, rfl, hcu.same (same_new hq1), fun H9 r9 s9 e9 => ?_⟩⟩
  refine ⟨q1, r9, _, _, rfl, rfl, s9 _ _ upd_same, e9, (by show 1 + 4 ≤ sizeLine; decide), fun r hr => ?_⟩
  have s10 := (same_new (o := .lst [.int 0]) hq1).trans s9
  exact k.fin ea ((Stp.same s1).trans (S'.trans (Stp.same s10))) (C'.same s10) hr rfl

theorem scAreHours : FnScope ["n"] ["n"] (defScope sAreHours) := ⟨rfl, rfl, rfl, by decide +kernel, rfl, by decide +kernel, by decide +kernel⟩
theorem ok_areHours {f : Addr} {fd : FuncData} (F : Fun K "are_hours" "are_hours" sAreHours f fd) (mh : ∃ t, mg "MOST_HOURS" = some (.int 24 t)) : FnOk P w K mg base CX0 1 f fd ["n"] spAreHours := by
  refine F.ok scAreHours (fun vs H Q E h => ?_) (fun cdv A outer s H vs Q X hr h => ?_)
  · obtain ⟨n, rfl, _⟩ := h
    rfl
  · obtain ⟨n, rfl, k⟩ := h
    refine ⟨_, pss_one (ps_ret (pe_chain op_le op_le pe_int (pv 0) (pe_gi mh))), ?_⟩
    exact ⟨_, rfl, _, _, rfl, rfl, _, rfl, andV k fun k => ⟨_, _, rfl, rfl, k⟩⟩
theorem hours_ok (n : Nat) : (decide (1 ≤ (n : Int)) && decide ((n : Int) ≤ 24)) = !decide (n = 0 ∨ 24 < n) := by
  by_cases h : n = 0 ∨ 24 < n
  · rw [decide_eq_true h]
    rcases h with h | h
    · rw [decide_eq_false (by omega)]; rfl
    · rw [decide_eq_false (p := (n : Int) ≤ 24) (by omega), Bool.and_false]; rfl
  · rw [decide_eq_false h, decide_eq_true (by omega), decide_eq_true (p := (n : Int) ≤ 24) (by omega)]; rfl

abbrev hoursN : List Str := ["course", "given", "n", "hour", "boxes", "changed"]
theorem scHours : FnScope hoursN wmPs (defScope sHours) := ⟨rfl, rfl, rfl, by decide +kernel, rfl, by decide +kernel, by decide +kernel⟩
theorem ok_hours {f : Addr} {fd : FuncData} (F : Fun K "wm_hours" "wm_hours" sHours f fd) (E : En P w K mg base W) (Dh : Df P w K mg base 1 "are_hours" ["n"] spAreHours) : FnOk P w K mg base CX0 8 f fd wmPs (spCall W 4) := by
  refine F.ok scHours (fun vs H Q E h => len_call h) (fun cdv A outer s H vs Q X hr h => ?_)
  obtain ⟨g, c, gv, d, xs, x, rfl, R, hg, C, ok, pf, k⟩ := h
  cases R with
  | c4 n =>
  have hr1 : Room 1 _ := hr.mono (by decide)
  have hr5 : Room 5 _ := hr.mono (by decide)
  refine ⟨_, pss_cons (ps_set (i := 2) scHours.nd rfl (Or.inl rfl) (pe_ix ix_list (pv 1) pe_int (fun _ _ => rfl)))
    (pss_cons (ps_if (pt_not (pt_val (pe_fn Dh hr1 (pa_cons (pv 2) pa_nil)))) (pss_one (ps_ret (pe_lst (pa_cons (pe_gi E.na) pa_nil)))) pss_nil)
    (pss_cons (ps_set (i := 3) scHours.nd rfl (Or.inl rfl) (pe_op op_add (pe_sf E.TK E.TS E.TS.hour (pv 0)) (pv 2)))
    (pss_cons (ps_if (pt_cmpR op_gt (pv 3) (pe_gi E.last) (nomark _)) (pss_one (ps_ret (pe_lst (pa_cons (pe_gi E.late) pa_nil)))) pss_nil)
    (pss_cons (ps_set (i := 4) scHours.nd rfl (Or.inl rfl) (pe_mth E.after E.TS.cl (pe_fld (pv 0) rfl) hr (pa_cons (pv 2) pa_nil)))
    (pss_cons (ps_if (pt_not (pt_truth (pv 4) (fun _ => rfl))) (pss_one (ps_ret (pe_lst (pa_cons (pe_gi E.nowhere) pa_nil)))) pss_nil)
    (pss_cons (ps_set (i := 5) scHours.nd rfl (Or.inl rfl) (pe_mth0 E.copied E.TS.cl (pe_fld (pv 0) rfl) hr5))
    (pss_cons (ps_fld (pv 5) (pv 3) rfl)
    (pss_cons (ps_fld (pv 5) (pv 4) rfl)
    (pss_cons (ps_expr (pe_mth E.change E.TK.cl (pv 0) hr1 (pa_cons (pv 5) pa_nil)))
    (pss_one (ps_ret (pe_lst (pa_cons (pv 3) (pa_cons (pe_callB call_len_seq rfl E.B.len PySem.boot_len (pa_cons (pv 4) pa_nil)) pa_nil)))))))))))))), ?_⟩
  obtain ⟨dx, a, le, ll, ap, af, dxs, lb, lL, cu, wi, p, N⟩ := now_of C
  refine ⟨_, rfl, gv, _, _, _, rfl, rfl, SqL.of hg, at_of (j := 0) rfl rfl, ?_⟩
  refine ⟨_, rfl, (n : Int), rfl, _, rfl, ?_⟩
  rw [hours_ok]
  by_cases h1 : n = 0 ∨ 24 < n
  · rw [decide_eq_true h1]
    refine iteT ⟨(by show 1 ≤ sizeLine; decide), fun q hq => ?_⟩
    have ea : Km444.act d (.hours n) = (d, ⟨-22, []⟩) := by show (if _ then _ else _) = _; rw [if_pos h1]; rfl
    exact k.fin ea Stp.refl C hq rfl
  rw [decide_eq_false h1]
  refine iteF ?_
  refine ⟨c, dx, a, le, ll, dxs, _, _, rfl, N.cr.at_, N.se.at_, sf_hour, _, rfl, _, _, rfl, rfl, _, rfl, _, _, rfl, rfl, _, rfl, ?_⟩
  refine ite2 (fun h2 => ⟨(by show 1 ≤ sizeLine; decide), fun q hq => ?_⟩) (fun h2 => ?_)
  · have h2' : Km444.LATEST < d.now.hour + n := by
      have := of_decide_eq_true h2
      show 1000 < _
      omega
    have ea : Km444.act d (.hours n) = (d, ⟨-75, []⟩) := by show (if _ then _ else if _ then _ else _) = _; rw [if_neg h1, if_pos h2']; rfl
    exact k.fin ea Stp.refl C hq rfl
  have h2' : ¬ Km444.LATEST < d.now.hour + n := fun z => h2 (decide_eq_true (by
    have z : 1000 < d.now.hour + n := z
    omega))
  have okn : SeaOk (g.S a) := by rw [← N.cr.now]; exact ok.now
  refine ⟨_, rfl, c, W.K, dx, _, _, rfl, N.cr.at_, E.TK.cl, E.TK.sea, cf_sea, a, dxs, _, rfl, N.se.at_, sf_after, _, rfl, g, a, n, rfl, N.cr.tg, N.cr.sa, okn, (by omega), fun H1 l A1 L1 => ?_⟩
  rw [← N.cr.now] at L1
  obtain ⟨dxs, lb, lL, cu, wi, p, N1⟩ := N.aft A1
  have S1 := A1.stp
  obtain ⟨nl, as1, e1, hB1⟩ := L1
  refine ⟨_, rfl, _, .inl ⟨_, SqL.of e1, rfl⟩, ?_⟩
  have emp : (as1.map V.ref).isEmpty = (hoursOn d.now n d.now.boxes).isEmpty := emp_of hB1
  have eb : (d.now.hours n).boxes = hoursOn d.now n d.now.boxes := by rw [hours_eq]
  cases h3 : (hoursOn d.now n d.now.boxes).isEmpty with
  | true =>
    rw [emp, h3]
    refine iteT ⟨(by show 1 ≤ sizeLine; decide), fun q hq => ?_⟩
    have h3' : (d.now.hours n).boxes = [] := by rw [eb]; exact List.isEmpty_iff.mp h3
    have ea : Km444.act d (.hours n) = (d, ⟨-33, []⟩) := by show (if _ then _ else if _ then _ else if _ then _ else _) = _; rw [if_neg h1, if_neg h2', if_pos h3']; rfl
    exact k.fin ea S1 N1.crs hq rfl
  | false =>
  rw [emp, h3]
  refine iteF ?_
  have h3' : ¬ (d.now.hours n).boxes = [] := fun z => by rw [eb] at z; rw [z] at h3; cases h3
  have ec : ((d.now.hour + n : Nat) : Int) = (d.now.hour : Int) + (n : Int) := by omega
  have ea : Km444.act d (.hours n) = (d.become { d.now with boxes := hoursOn d.now n d.now.boxes, hour := d.now.hour + n }, ⟨(d.now.hour : Int) + (n : Int), [((hoursOn d.now n d.now.boxes).length : Int)]⟩) := by
    show (if _ then _ else if _ then _ else if _ then _ else _) = _
    rw [if_neg h1, if_neg h2', if_neg h3', hours_eq, ← ec]
  refine ⟨_, rfl, c, W.K, dx, _, _, rfl, N1.cr.at_, E.TK.cl, E.TK.sea, cf_sea, a, dxs, _, rfl, N1.se.at_, sf_copied, g, a, d.now, dxs, lb, lL, cu, wi, p, rfl, N1.se, fun H5 a' dx' p' s5 na e5 np ep => ?_⟩
  refine ⟨_, rfl, _, rfl, a', W.S, dx', _, rfl, e5, E.TS.cl, E.TS.hour, sf_len, ?_⟩
  have e6 : (upd H5 a' (.ins W.S dx' (putF "hour" (.int ((d.now.hour : Int) + (n : Int))) (sf d.now.hour lb lL cu wi d.now.seen d.now.lo d.now.hi p')))) a' = some (.ins W.S dx' (sf ((d.now.hour + n : Nat) : Int) lb lL cu wi d.now.seen d.now.lo d.now.hi p')) := by rw [ec]; exact upd_same
  have p6 := lst_updI (o := .ins W.S dx' (putF "hour" (.int ((d.now.hour : Int) + (n : Int))) (sf d.now.hour lb lL cu wi d.now.seen d.now.lo d.now.hi p'))) ep e5
  have s6 : Same H1 (upd H5 a' (.ins W.S dx' (putF "hour" (.int ((d.now.hour : Int) + (n : Int))) (sf d.now.hour lb lL cu wi d.now.seen d.now.lo d.now.hi p')))) := Same.upd_new s5 na
  generalize upd H5 a' (.ins W.S dx' (putF "hour" (.int ((d.now.hour : Int) + (n : Int))) (sf d.now.hour lb lL cu wi d.now.seen d.now.lo d.now.hi p'))) = H6 at *
  refine ⟨_, rfl, _, rfl, a', W.S, dx', _, rfl, e6, E.TS.cl, E.TS.boxes, sf_len, ?_⟩
  have s7 : Same H1 (upd H6 a' (.ins W.S dx' (putF "boxes" (.ref l) (sf ((d.now.hour + n : Nat) : Int) lb lL cu wi d.now.seen d.now.lo d.now.hi p')))) := Same.upd_new s6 na
  have N7 := N1.same s7
  refine ⟨_, rfl, c, dx, _, rfl, N7.cr.at_, cf_change, _, rfl, ?_⟩
  have hL7 : LstO W g (upd H6 a' (.ins W.S dx' (putF "boxes" (.ref l) (sf ((d.now.hour + n : Nat) : Int) lb lL cu wi d.now.seen d.now.lo d.now.hi p')))) l (hoursOn d.now n d.now.boxes) := ⟨nl, as1, s7 _ _ e1, Bxs.same s7 hB1⟩
  dsimp only [tNil]
  refine chg_of (s' := { d.now with boxes := hoursOn d.now n d.now.boxes, hour := d.now.hour + n }) N1.cr s7 na np upd_same (lst_updI p6 e6) hL7 (ne_of_none e1 np) N7.se.ld (N1.se.ld.ne np) N7.se.cu N7.se.wi ok.p20 fun g' H' C' S' fx => ?_
  have e9 := fx _ _ (s7 _ _ e1) nl (ne_of_none e1 np)
  refine ⟨_, rfl, _, rfl, l, _, rfl, .inl (SqL.of e9), (by show 2 ≤ sizeLine; decide), fun r hr => ?_⟩
  refine k.fin ea (S1.trans S') C' hr ?_
  rw [List.length_map, hB1.len]
  rfl
end
end Db
end
section
/-! drift.py: wm_sighted, wm_searched, wm_other. -/
set_option Elab.async false
set_option linter.all false
set_option maxRecDepth 100000
namespace Db
open PySem PySem.Spec PyProof.Rows L2
open Km444 (Box Sea Desk)
abbrev sSighted : Stmt := top 50
abbrev sSearched : Stmt := top 51
abbrev sOther : Stmt := top 52
section
variable {P : Program} {w : World} {K : PySem.W.Frag} {mg : Str → Option Value} {base : Heap} {W : Cl}

theorem scSighted : FnScope ["course", "given", "sighting", "left", "changed"] wmPs (defScope sSighted) := ⟨rfl, rfl, rfl, by decide +kernel, rfl, by decide +kernel, by decide +kernel⟩
theorem ok_sighted {f : Addr} {fd : FuncData} (F : Fun K "wm_sighted" "wm_sighted" sSighted f fd) (E : En P w K mg base W) : FnOk P w K mg base CX0 8 f fd wmPs (spCall W 5) := by
  refine F.ok scSighted (fun vs H Q E h => len_call h) (fun cdv A outer s H vs Q X hr h => ?_)
  obtain ⟨g, c, gv, d, xs, x, rfl, R, hg, C, ok, pf, k⟩ := h
  cases R with
  | c5 west east south north =>
  have hr1 : Room 1 _ := hr.mono (by decide)
  have hr2 : Room 2 _ := hr.mono (by decide)
  have hr3 : Room 3 _ := hr.mono (by decide)
  have hr4 : Room 4 _ := hr.mono (by decide)
  have hr5 : Room 5 _ := hr.mono (by decide)
  refine ⟨_, (pss_cons (ps_set (i := 2) scSighted.nd rfl (Or.inl rfl) (pe_fn E.told hr3 (pa_cons (pv 1) pa_nil))) (pss_cons (ps_if (pt_not (pt_val (pe_fn E.within hr2 (pa_cons (pv 2) (pa_cons (pe_gi E.sought) pa_nil))))) (pss_one (ps_ret (pe_lst (pa_cons (pe_gi E.na) pa_nil)))) pss_nil) (pss_cons (ps_set (i := 3) scSighted.nd rfl (Or.inl rfl) (pe_fn E.narrowed hr4 (pa_cons (pe_sf E.TK E.TS E.TS.boxes (pv 0)) (pa_cons (pv 2) pa_nil))))
    (pss_cons (ps_if (pt_not (pt_truth (pv 3) (fun _ => rfl))) (pss_one (ps_ret (pe_lst (pa_cons (pe_gi E.nowhere) pa_nil)))) pss_nil)
    (pss_cons (ps_set (i := 4) scSighted.nd rfl (Or.inl rfl) (pe_mth0 E.copied E.TS.cl (pe_fld (pv 0) rfl) hr5))
    (pss_cons (ps_fld (pv 4) (pe_fn E.tidy hr3 (pa_cons (pv 3) pa_nil)) rfl)
    (pss_cons (ps_fldaug (pv 4) pe_int in_add)
    (pss_cons (ps_expr (pe_mth E.change E.TK.cl (pv 0) hr1 (pa_cons (pv 4) pa_nil)))
    (pss_one (ps_ret (pe_lst (pa_cons (pe_callB call_len_seq rfl E.B.len PySem.boot_len (pa_cons (pe_fld (pv 4) rfl) pa_nil)) pa_nil)))))))))))), ?_⟩
  obtain ⟨dx, a, le, ll, ap, af, dxs, lb, lL, cu, wi, p, N⟩ := now_of C
  refine hd_box (K := K) (W := W) (lim := 3000000) rfl hg (by show 2 < 5; decide) (fun h H1 q s1 hq => ?_) (fun h1 H1 b s1 hb => ?_)
  · have ea : Km444.act d (.sighted west east south north) = (d, ⟨-22, []⟩) := by show (if _ then _ else _) = _; rw [if_pos (show Km444.okBox (3 * Km444.FAR) ⟨west, east, south, north⟩ = false from h)]; rfl
    exact k.fin ea (Stp.same s1) (C.same s1) hq rfl
  have N1 := N.same s1
  have n1 : ¬ Km444.okBox (3 * Km444.FAR) ⟨west, east, south, north⟩ = false := by rw [show Km444.okBox (3 * Km444.FAR) ⟨west, east, south, north⟩ = true from h1]; decide
  have l8 : d.now.boxes.length ≤ 8 := by have := ok.now.le4; omega
  refine ⟨c, dx, a, le, ll, dxs, _, _, rfl, N1.cr.at_, N1.se.at_, sf_boxes, _, rfl, lb, b, _, _, rfl, N1.se.bx.2, hb, l8, fun H4 q4 s4 hL4 => ?_⟩
  have N4 := N1.same s4
  obtain ⟨as4, e4, hB4⟩ := hL4
  refine ⟨_, rfl, _, .inl ⟨_, SqL.of e4, rfl⟩, ?_⟩
  rw [emp_of hB4]
  have en : d.now.narrow ⟨west, east, south, north⟩ = Km444.tidy ((d.now.boxes.map fun x => x.meet ⟨west, east, south, north⟩).filter Box.full) := rfl
  have len4 : ((d.now.boxes.map fun x => x.meet (⟨west, east, south, north⟩ : Box)).filter Box.full).length ≤ 8 := Nat.le_trans (List.length_filter_le _ _) (by rw [List.length_map]; exact l8)
  cases h5 : ((d.now.boxes.map fun x => x.meet (⟨west, east, south, north⟩ : Box)).filter Box.full).isEmpty with
  | true =>
    refine iteT ⟨(by show 1 ≤ sizeLine; decide), fun q hq => ?_⟩
    have h5' : d.now.narrow ⟨west, east, south, north⟩ = [] := by rw [en, List.isEmpty_iff.mp h5]; rfl
    have ea : Km444.act d (.sighted west east south north) = (d, ⟨-33, []⟩) := by show (if _ then _ else if _ then _ else _) = _; rw [if_neg n1, if_pos h5']; rfl
    exact k.fin ea (Stp.same (s1.trans s4)) N4.crs hq rfl
  | false =>
  refine iteF ?_
  have h5' : ¬ d.now.narrow ⟨west, east, south, north⟩ = [] := fun z => by
    rw [en, tidy_nil_iff] at z
    rw [z] at h5
    cases h5
  have ea : Km444.act d (.sighted west east south north) = (d.become { d.now with boxes := d.now.narrow ⟨west, east, south, north⟩, seen := d.now.seen + 1 }, ⟨((d.now.narrow ⟨west, east, south, north⟩).length : Nat), []⟩) := by
    show (if _ then _ else if _ then _ else _) = _
    rw [if_neg n1, if_neg h5']
    rfl
  refine ⟨_, rfl, c, W.K, dx, _, _, rfl, N4.cr.at_, E.TK.cl, E.TK.sea, cf_sea, a, dxs, _, rfl, N4.se.at_, sf_copied, g, a, d.now, dxs, lb, lL, cu, wi, p, rfl, N4.se, fun H5 a' dx' p' s5 na e5 np ep => ?_⟩
  refine ⟨_, rfl, q4, _, rfl, ⟨as4, s5 _ _ e4, Bxs.same s5 hB4⟩, Nat.le_trans len4 (by decide), fun H7 q7 s7 n7 hL7 => ?_⟩
  rw [← en] at hL7
  refine ⟨_, rfl, a', W.S, dx', _, rfl, s7 _ _ e5, E.TS.cl, E.TS.boxes, sf_len, ?_⟩
  have ha7 := s7 _ _ e5
  have e8 : (upd H7 a' (.ins W.S dx' (putF "boxes" (.ref q7) (sf d.now.hour lb lL cu wi d.now.seen d.now.lo d.now.hi p')))) a' = some (.ins W.S dx' (sf d.now.hour q7 lL cu wi d.now.seen d.now.lo d.now.hi p')) := upd_same
  have p8 := lst_updI (o := .ins W.S dx' (putF "boxes" (.ref q7) (sf d.now.hour lb lL cu wi d.now.seen d.now.lo d.now.hi p'))) (s7 _ _ ep) ha7
  have s48 : Same H4 (upd H7 a' (.ins W.S dx' (putF "boxes" (.ref q7) (sf d.now.hour lb lL cu wi d.now.seen d.now.lo d.now.hi p')))) := Same.upd_new (s5.trans s7) na
  have nq7 : g.O q7 = none := (N4.cr.tg.same s5).new n7
  have nq7p : q7 ≠ p' := fun z => by rw [z, ep] at n7; cases n7
  obtain ⟨as7, e7, hB7⟩ := hL7
  have l8' : (upd H7 a' (.ins W.S dx' (putF "boxes" (.ref q7) (sf d.now.hour lb lL cu wi d.now.seen d.now.lo d.now.hi p')))) q7 = some (.lst (as7.map V.ref)) := lst_updI e7 ha7
  have hB8 : Bxs W.B (upd H7 a' (.ins W.S dx' (putF "boxes" (.ref q7) (sf d.now.hour lb lL cu wi d.now.seen d.now.lo d.now.hi p')))) as7 (d.now.narrow ⟨west, east, south, north⟩) := hB7.imp fun _ _ h => h.updI ha7
  generalize upd H7 a' (.ins W.S dx' (putF "boxes" (.ref q7) (sf d.now.hour lb lL cu wi d.now.seen d.now.lo d.now.hi p'))) = H8 at *
  refine ⟨_, rfl, a', W.S, dx', _, _, rfl, e8, E.TS.cl, E.TS.seen, sf_seen, _, _, rfl, rfl, dx', _, e8, sf_len, ?_⟩
  have e9 : (upd H8 a' (.ins W.S dx' (putF "sightings" (.int ((d.now.seen : Int) + 1)) (sf d.now.hour q7 lL cu wi d.now.seen d.now.lo d.now.hi p')))) a' = some (.ins W.S dx' (sf d.now.hour q7 lL cu wi ((d.now.seen + 1 : Nat) : Int) d.now.lo d.now.hi p')) := upd_same
  have p9 := lst_updI (o := .ins W.S dx' (putF "sightings" (.int ((d.now.seen : Int) + 1)) (sf d.now.hour q7 lL cu wi d.now.seen d.now.lo d.now.hi p'))) p8 e8
  have s49 : Same H4 (upd H8 a' (.ins W.S dx' (putF "sightings" (.int ((d.now.seen : Int) + 1)) (sf d.now.hour q7 lL cu wi d.now.seen d.now.lo d.now.hi p')))) := Same.upd_new s48 na
  have l9 : (upd H8 a' (.ins W.S dx' (putF "sightings" (.int ((d.now.seen : Int) + 1)) (sf d.now.hour q7 lL cu wi d.now.seen d.now.lo d.now.hi p')))) q7 = some (.lst (as7.map V.ref)) := lst_updI l8' e8
  have hB9 : Bxs W.B (upd H8 a' (.ins W.S dx' (putF "sightings" (.int ((d.now.seen : Int) + 1)) (sf d.now.hour q7 lL cu wi d.now.seen d.now.lo d.now.hi p')))) as7 (d.now.narrow ⟨west, east, south, north⟩) := hB8.imp fun _ _ h => h.updI e8
  have na' : g.O a' = none := N4.cr.tg.new na
  have nap : a' ≠ p' := ne_of e9 p9 (fun z => by cases z)
  have N9 := N4.same s49
  refine ⟨_, rfl, c, dx, _, rfl, N9.cr.at_, cf_change, _, rfl, ?_⟩
  dsimp only [tNil]
  refine chg_of (s' := { d.now with boxes := d.now.narrow ⟨west, east, south, north⟩, seen := d.now.seen + 1 }) N4.cr s49 na np e9 p9 ⟨nq7, as7, l9, hB9⟩ nq7p N9.se.ld (N4.se.ld.ne np) N9.se.cu N9.se.wi ok.p20 fun g' H' C' S' fx => ?_
  refine ⟨_, rfl, a', W.S, dx', _, _, rfl, fx _ _ e9 na' nap, E.TS.cl, E.TS.boxes, sf_boxes, q7, _, rfl, .inl (SqL.of (fx _ _ l9 nq7 nq7p)), (by show 1 ≤ sizeLine; decide), fun r hr => ?_⟩
  refine k.fin ea ((Stp.same (s1.trans s4)).trans S') C' hr ?_
  rw [List.length_map, hB7.len]
  rfl

theorem scSearched : FnScope ["course", "given", "search", "left", "changed"] wmPs (defScope sSearched) := ⟨rfl, rfl, rfl, by decide +kernel, rfl, by decide +kernel, by decide +kernel⟩
theorem ok_searched {f : Addr} {fd : FuncData} (F : Fun K "wm_searched" "wm_searched" sSearched f fd) (E : En P w K mg base W) : FnOk P w K mg base CX0 8 f fd wmPs (spCall W 6) := by
  refine F.ok scSearched (fun vs H Q E h => len_call h) (fun cdv A outer s H vs Q X hr h => ?_)
  obtain ⟨g, c, gv, d, xs, x, rfl, R, hg, C, ok, pf, k⟩ := h
  cases R with
  | c6 west east south north =>
  have hr1 : Room 1 _ := hr.mono (by decide)
  have hr2 : Room 2 _ := hr.mono (by decide)
  have hr3 : Room 3 _ := hr.mono (by decide)
  have hr5 : Room 5 _ := hr.mono (by decide)
  have hr6 : Room 6 _ := hr.mono (by decide)
  refine ⟨_, (pss_cons (ps_set (i := 2) scSearched.nd rfl (Or.inl rfl) (pe_fn E.told hr3 (pa_cons (pv 1) pa_nil))) (pss_cons (ps_if (pt_not (pt_val (pe_fn E.within hr2 (pa_cons (pv 2) (pa_cons (pe_gi E.sought) pa_nil))))) (pss_one (ps_ret (pe_lst (pa_cons (pe_gi E.na) pa_nil)))) pss_nil) (pss_cons (ps_set (i := 3) scSearched.nd rfl (Or.inl rfl) (pe_fn E.without hr5 (pa_cons (pe_sf E.TK E.TS E.TS.boxes (pv 0)) (pa_cons (pe_lst (pa_cons (pv 2) pa_nil)) pa_nil))))
    (pss_cons (ps_if (pt_not (pt_truth (pv 3) (fun _ => rfl))) (pss_one (ps_ret (pe_lst (pa_cons (pe_gi E.nowhere) pa_nil)))) pss_nil)
    (pss_cons (ps_set (i := 4) scSearched.nd rfl (Or.inl rfl) (pe_mth0 E.copied E.TS.cl (pe_fld (pv 0) rfl) hr5))
    (pss_cons (ps_fld (pv 4) (pe_fn E.four hr6 (pa_cons (pv 3) pa_nil)) rfl)
    (pss_cons (ps_expr (pe_mth E.change E.TK.cl (pv 0) hr1 (pa_cons (pv 4) pa_nil)))
    (pss_one (ps_ret (pe_lst (pa_cons (pe_callB call_len_seq rfl E.B.len PySem.boot_len (pa_cons (pe_fld (pv 4) rfl) pa_nil)) pa_nil))))))))))), ?_⟩
  obtain ⟨dx, a, le, ll, ap, af, dxs, lb, lL, cu, wi, p, N⟩ := now_of C
  refine hd_box (K := K) (W := W) (lim := 3000000) rfl hg (by show 2 < 5; decide) (fun h H1 q s1 hq => ?_) (fun h1 H1 b s1 hb => ?_)
  · have ea : Km444.act d (.searched west east south north) = (d, ⟨-22, []⟩) := by show (if _ then _ else _) = _; rw [if_pos (show Km444.okBox (3 * Km444.FAR) ⟨west, east, south, north⟩ = false from h)]; rfl
    exact k.fin ea (Stp.same s1) (C.same s1) hq rfl
  have N1 := N.same s1
  have n1 : ¬ Km444.okBox (3 * Km444.FAR) ⟨west, east, south, north⟩ = false := by rw [show Km444.okBox (3 * Km444.FAR) ⟨west, east, south, north⟩ = true from h1]; decide
  have l8 : d.now.boxes.length ≤ 8 := by have := ok.now.le4; omega
  have ed : Km444.dry [⟨west, east, south, north⟩] d.now.boxes = d.now.boxes.flatMap fun x => x.less ⟨west, east, south, north⟩ := rfl
  refine ⟨c, dx, a, le, ll, dxs, _, _, rfl, N1.cr.at_, N1.se.at_, sf_boxes, _, rfl, (by show 1 ≤ sizeLine; decide), fun q3 hq3 => ?_⟩
  have s3 : Same H1 (upd H1 q3 (.lst [.ref b])) := same_new hq3
  refine ⟨lb, q3, _, [⟨west, east, south, north⟩], rfl, (N1.se.bx.same s3).2, ⟨[b], upd_same, .one (hb.same s3)⟩, l8, (by show 1 ≤ 4; decide), fun H4 q4 s34 hL4 => ?_⟩
  have s4 := s3.trans s34
  have N4 := N1.same s4
  obtain ⟨as4, e4, hB4⟩ := hL4
  refine ⟨_, rfl, _, .inl ⟨_, SqL.of e4, rfl⟩, ?_⟩
  rw [emp_of hB4]
  cases h5 : (Km444.dry [(⟨west, east, south, north⟩ : Box)] d.now.boxes).isEmpty with
  | true =>
    refine iteT ⟨(by show 1 ≤ sizeLine; decide), fun q hq => ?_⟩
    have h5' : (d.now.boxes.flatMap fun x => x.less ⟨west, east, south, north⟩) = [] := List.isEmpty_iff.mp h5
    have ea : Km444.act d (.searched west east south north) = (d, ⟨-33, []⟩) := by show (if _ then _ else if _ then _ else _) = _; rw [if_neg n1, if_pos h5']; rfl
    exact k.fin ea (Stp.same (s1.trans s4)) N4.crs hq rfl
  | false =>
  refine iteF ?_
  have h5' : ¬ (d.now.boxes.flatMap fun x => x.less ⟨west, east, south, north⟩) = [] := fun z => by
    rw [ed, z] at h5
    cases h5
  have ea : Km444.act d (.searched west east south north) = (d.become { d.now with boxes := Km444.squeezed (Km444.dry [⟨west, east, south, north⟩] d.now.boxes) }, ⟨((Km444.squeezed (Km444.dry [⟨west, east, south, north⟩] d.now.boxes)).length : Nat), []⟩) := by
    show (if _ then _ else if _ then _ else _) = _
    rw [if_neg n1, if_neg h5']
    rfl
  refine ⟨_, rfl, c, W.K, dx, _, _, rfl, N4.cr.at_, E.TK.cl, E.TK.sea, cf_sea, a, dxs, _, rfl, N4.se.at_, sf_copied, g, a, d.now, dxs, lb, lL, cu, wi, p, rfl, N4.se, fun H5 a' dx' p' s5 na e5 np ep => ?_⟩
  refine ⟨_, rfl, q4, _, rfl, ⟨as4, s5 _ _ e4, Bxs.same s5 hB4⟩, dry_len8 (by show 1 ≤ 4; decide) l8, (fun x hx => seaBd ok (dry_bd ok.now.bd x hx)), fun H7 q7 s7 n7 hL7 => ?_⟩
  refine ⟨_, rfl, a', W.S, dx', _, rfl, s7 _ _ e5, E.TS.cl, E.TS.boxes, sf_len, ?_⟩
  have ha7 := s7 _ _ e5
  have e8 : (upd H7 a' (.ins W.S dx' (putF "boxes" (.ref q7) (sf d.now.hour lb lL cu wi d.now.seen d.now.lo d.now.hi p')))) a' = some (.ins W.S dx' (sf d.now.hour q7 lL cu wi d.now.seen d.now.lo d.now.hi p')) := upd_same
  have p8 := lst_updI (o := .ins W.S dx' (putF "boxes" (.ref q7) (sf d.now.hour lb lL cu wi d.now.seen d.now.lo d.now.hi p'))) (s7 _ _ ep) ha7
  have s48 : Same H4 (upd H7 a' (.ins W.S dx' (putF "boxes" (.ref q7) (sf d.now.hour lb lL cu wi d.now.seen d.now.lo d.now.hi p')))) := Same.upd_new (s5.trans s7) na
  have nq7 : g.O q7 = none := (N4.cr.tg.same s5).new n7
  have nq7p : q7 ≠ p' := fun z => by rw [z, ep] at n7; cases n7
  obtain ⟨as7, e7, hB7⟩ := hL7
  have l9 : (upd H7 a' (.ins W.S dx' (putF "boxes" (.ref q7) (sf d.now.hour lb lL cu wi d.now.seen d.now.lo d.now.hi p')))) q7 = some (.lst (as7.map V.ref)) := lst_updI e7 ha7
  have na' : g.O a' = none := N4.cr.tg.new na
  have nap : a' ≠ p' := ne_of e8 p8 (fun z => by cases z)
  have N9 := N4.same s48
  refine ⟨_, rfl, c, dx, _, rfl, N9.cr.at_, cf_change, _, rfl, ?_⟩
  dsimp only [tNil]
  refine chg_of (s' := { d.now with boxes := Km444.squeezed (Km444.dry [⟨west, east, south, north⟩] d.now.boxes) }) N4.cr s48 na np e8 p8 ⟨nq7, as7, l9, hB7.imp fun _ _ h => h.updI ha7⟩ nq7p N9.se.ld (N4.se.ld.ne np) N9.se.cu N9.se.wi ok.p20 fun g' H' C' S' fx => ?_
  refine ⟨_, rfl, a', W.S, dx', _, _, rfl, fx _ _ e8 na' nap, E.TS.cl, E.TS.boxes, sf_boxes, q7, _, rfl, .inl (SqL.of (fx _ _ l9 nq7 nq7p)), (by show 1 ≤ sizeLine; decide), fun r hr => ?_⟩
  refine k.fin ea ((Stp.same (s1.trans s4)).trans S') C' hr ?_
  rw [List.length_map, hB7.len]
  rfl

theorem scOther : FnScope ["course", "given", "other", "sea", "changed"] wmPs (defScope sOther) := ⟨rfl, rfl, rfl, by decide +kernel, rfl, by decide +kernel, by decide +kernel⟩
theorem ok_other {f : Addr} {fd : FuncData} (F : Fun K "wm_other" "wm_other" sOther f fd) (E : En P w K mg base W) : FnOk P w K mg base CX0 8 f fd wmPs (spCall W 7) := by
  refine F.ok scOther (fun vs H Q E h => len_call h) (fun cdv A outer s H vs Q X hr h => ?_)
  obtain ⟨g, c, gv, d, xs, x, rfl, R, hg, C, ok, pf, k⟩ := h
  cases R with
  | c7 west east south north =>
  have hr1 : Room 1 _ := hr.mono (by decide)
  have hr2 : Room 2 _ := hr.mono (by decide)
  have hr3 : Room 3 _ := hr.mono (by decide)
  have hr5 : Room 5 _ := hr.mono (by decide)
  have hr6 : Room 6 _ := hr.mono (by decide)
  refine ⟨_, pss_cons (ps_set (i := 2) scOther.nd rfl (Or.inl rfl) (pe_fn E.told hr3 (pa_cons (pv 1) pa_nil))) (pss_cons (ps_set (i := 3) scOther.nd rfl (Or.inl rfl) (pe_fld (pv 0) rfl))
    (pss_cons (ps_if (pt_not (pt_val (pe_fn E.within hr2 (pa_cons (pv 2) (pa_cons (pe_gi E.far) pa_nil))))) (pss_one (ps_ret (pe_lst (pa_cons (pe_gi E.na) pa_nil)))) pss_nil)
    (pss_cons (ps_if (pt_not (pt_truth (pe_fn E.without hr5 (pa_cons (pe_lst (pa_cons (pv 2) pa_nil)) (pa_cons (pe_fld (pv 3) rfl) pa_nil))) (fun _ => rfl))) (pss_one (ps_ret (pe_lst (pa_cons (pe_gi E.nowhere) pa_nil)))) pss_nil)
    (pss_cons (ps_set (i := 4) scOther.nd rfl (Or.inl rfl) (pe_mth0 E.copied E.TS.cl (pv 3) hr5))
    (pss_cons (ps_fld (pv 4) (pe_fn E.four hr6 (pa_cons (pe_fn E.without hr5 (pa_cons (pe_op op_cat (pe_fld (pv 3) rfl) (pe_lst (pa_cons (pv 2) pa_nil))) (pa_cons (pe_fld (pv 3) rfl) pa_nil))) pa_nil)) rfl)
    (pss_cons (ps_expr (pe_mth E.change E.TK.cl (pv 0) hr1 (pa_cons (pv 4) pa_nil)))
    (pss_one (ps_ret (pe_lst (pa_cons (pe_callB call_len_seq rfl E.B.len PySem.boot_len (pa_cons (pe_fld (pv 4) rfl) pa_nil)) pa_nil)))))))))), ?_⟩
  obtain ⟨dx, a, le, ll, ap, af, dxs, lb, lL, cu, wi, p, N⟩ := now_of C
  refine ⟨_, rfl, gv, _, _, _, _, [], rfl, SqL.of hg, fun H1 b s1 hb => ?_⟩
  have N1 := N.same s1
  refine ⟨_, rfl, c, W.K, dx, _, _, rfl, N1.cr.at_, E.TK.cl, E.TK.sea, cf_sea, _, rfl, b, _, _, rfl, hb, _, rfl, ?_⟩
  cases h1 : Km444.okBox 1000000 ⟨west, east, south, north⟩ with
  | false =>
    refine iteT ⟨(by show 1 ≤ sizeLine; decide), fun q hq => ?_⟩
    have ea : Km444.act d (.other west east south north) = (d, ⟨-22, []⟩) := by show (if _ then _ else _) = _; rw [if_pos (show Km444.okBox Km444.FAR ⟨west, east, south, north⟩ = false from h1)]; rfl
    exact k.fin ea (Stp.same s1) N1.crs hq rfl
  | true =>
  refine iteF ?_
  have n1 : ¬ Km444.okBox Km444.FAR ⟨west, east, south, north⟩ = false := by rw [show Km444.okBox Km444.FAR ⟨west, east, south, north⟩ = true from h1]; decide
  refine ⟨_, rfl, (by show 1 ≤ sizeLine; decide), fun q3 hq3 => ?_⟩
  have s3 : Same H1 (upd H1 q3 (.lst [.ref b])) := same_new hq3
  have N3 := N1.same s3
  refine ⟨_, rfl, a, W.S, dxs, _, _, rfl, N3.se.at_, E.TS.cl, E.TS.lands, sf_lands, q3, lL, [⟨west, east, south, north⟩], _, rfl, ⟨[b], upd_same, .one (hb.same s3)⟩, N3.se.ld.2, (by show 1 ≤ 8; decide), ok.now.l4, fun H4 q4 s34 hL4 => ?_⟩
  have s4 := s3.trans s34
  have N4 := N1.same s4
  obtain ⟨as4, e4, hB4⟩ := hL4
  refine ⟨_, .inl ⟨_, SqL.of e4, rfl⟩, ?_⟩
  rw [emp_of hB4]
  cases h5 : (Km444.dry d.now.lands [(⟨west, east, south, north⟩ : Box)]).isEmpty with
  | true =>
    refine iteT ⟨(by show 1 ≤ sizeLine; decide), fun q hq => ?_⟩
    have h5' : Km444.dry d.now.lands [⟨west, east, south, north⟩] = [] := List.isEmpty_iff.mp h5
    have ea : Km444.act d (.other west east south north) = (d, ⟨-33, []⟩) := by show (if _ then _ else if _ then _ else _) = _; rw [if_neg n1, if_pos h5']; rfl
    exact k.fin ea (Stp.same (s1.trans s4)) N4.crs hq rfl
  | false =>
  refine iteF ?_
  have h5' : ¬ Km444.dry d.now.lands [⟨west, east, south, north⟩] = [] := fun z => by
    rw [z] at h5
    cases h5
  have ea : Km444.act d (.other west east south north) = (d.become { d.now with boxes := Km444.squeezed (Km444.dry d.now.lands (d.now.boxes ++ [⟨west, east, south, north⟩])) }, ⟨((Km444.squeezed (Km444.dry d.now.lands (d.now.boxes ++ [⟨west, east, south, north⟩]))).length : Nat), []⟩) := by
    show (if _ then _ else if _ then _ else _) = _
    rw [if_neg n1, if_neg h5']
    rfl
  refine ⟨_, rfl, a, dxs, _, rfl, N4.se.at_, sf_copied, g, a, d.now, dxs, lb, lL, cu, wi, p, rfl, N4.se, fun H5 a' dx' p' s5 na e5 np ep => ?_⟩
  have N5 := N4.same s5
  obtain ⟨nlb, asb, elb, hBb⟩ := N5.se.bx
  have lenb : asb.length = d.now.boxes.length := hBb.len
  have le4 := ok.now.le4
  refine ⟨_, rfl, a, W.S, dxs, _, _, rfl, N5.se.at_, E.TS.cl, E.TS.boxes, sf_boxes, _, rfl, (by show 1 ≤ sizeLine; decide), fun q6 hq6 => ?_⟩
  have s6 : Same H5 (upd H5 q6 (.lst [.ref b])) := same_new hq6
  refine ⟨lb, q6, _, _, rfl, rfl, s6 _ _ elb, upd_same, (by rw [List.length_map, lenb, sizeLine_eq]; show _ + 1 ≤ _; omega), fun q7 hq7 => ?_⟩
  have s57 := s6.trans (same_new (o := .lst (asb.map V.ref ++ [.ref b])) hq7)
  have e7 : (upd (upd H5 q6 (.lst [.ref b])) q7 (.lst (asb.map V.ref ++ [.ref b]))) q7 = some (.lst ((asb ++ [b]).map V.ref)) := by rw [upd_same, List.map_append]; rfl
  generalize upd (upd H5 q6 (.lst [.ref b])) q7 (.lst (asb.map V.ref ++ [.ref b])) = H7 at *
  have N7 := N5.same s57
  have hL7 : LstAt W.B H7 q7 (d.now.boxes ++ [⟨west, east, south, north⟩]) := ⟨asb ++ [b], e7, (Bxs.same s57 hBb).append (.one (hb.same (s4.trans (s5.trans s57))))⟩
  have len7 : (d.now.boxes ++ [(⟨west, east, south, north⟩ : Box)]).length ≤ 8 := by rw [List.length_append, List.length_singleton]; omega
  refine ⟨_, rfl, a, W.S, dxs, _, _, rfl, N7.se.at_, E.TS.cl, E.TS.lands, sf_lands, q7, lL, _, _, rfl, hL7, N7.se.ld.2, len7, ok.now.l4, fun H8 q8 s8 hL8 => ?_⟩
  have hbd : ∀ x ∈ d.now.boxes ++ [(⟨west, east, south, north⟩ : Box)], Bd 100000000 x := fun x hx => by
    rcases List.mem_append.mp hx with hx | hx
    · exact seaBd ok (ok.now.bd x hx)
    · rw [List.mem_singleton] at hx
      subst hx
      exact (okBox_iff.mp h1).mono (by omega)
  refine ⟨q8, _, rfl, hL8, dry_len8 ok.now.l4 len7, dry_bd hbd, fun H9 q9 s9 n9 hL9 => ?_⟩
  have s59 := s57.trans (s8.trans s9)
  have ha9 := s59 _ _ e5
  refine ⟨_, rfl, a', W.S, dx', _, rfl, ha9, E.TS.cl, E.TS.boxes, sf_len, ?_⟩
  have e10 : (upd H9 a' (.ins W.S dx' (putF "boxes" (.ref q9) (sf d.now.hour lb lL cu wi d.now.seen d.now.lo d.now.hi p')))) a' = some (.ins W.S dx' (sf d.now.hour q9 lL cu wi d.now.seen d.now.lo d.now.hi p')) := upd_same
  have p10 := lst_updI (o := .ins W.S dx' (putF "boxes" (.ref q9) (sf d.now.hour lb lL cu wi d.now.seen d.now.lo d.now.hi p'))) (s59 _ _ ep) ha9
  have s410 : Same H4 (upd H9 a' (.ins W.S dx' (putF "boxes" (.ref q9) (sf d.now.hour lb lL cu wi d.now.seen d.now.lo d.now.hi p')))) := Same.upd_new (s5.trans s59) na
  have nq9 : g.O q9 = none := (N7.cr.tg.same s8).new n9
  have nq9p : q9 ≠ p' := fun z => by rw [z, s8 _ _ (s57 _ _ ep)] at n9; cases n9
  obtain ⟨as9, e9, hB9⟩ := hL9
  have l9 : (upd H9 a' (.ins W.S dx' (putF "boxes" (.ref q9) (sf d.now.hour lb lL cu wi d.now.seen d.now.lo d.now.hi p')))) q9 = some (.lst (as9.map V.ref)) := lst_updI e9 ha9
  have na' : g.O a' = none := N4.cr.tg.new na
  have nap : a' ≠ p' := ne_of e10 p10 (fun z => by cases z)
  have N10 := N4.same s410
  refine ⟨_, rfl, c, dx, _, rfl, N10.cr.at_, cf_change, _, rfl, ?_⟩
  dsimp only [tNil]
  refine chg_of (s' := { d.now with boxes := Km444.squeezed (Km444.dry d.now.lands (d.now.boxes ++ [⟨west, east, south, north⟩])) }) N4.cr s410 na np e10 p10 ⟨nq9, as9, l9, hB9.imp fun _ _ h => h.updI ha9⟩ nq9p N10.se.ld (N4.se.ld.ne np) N10.se.cu N10.se.wi ok.p20 fun g' H' C' S' fx => ?_
  refine ⟨_, rfl, a', W.S, dx', _, _, rfl, fx _ _ e10 na' nap, E.TS.cl, E.TS.boxes, sf_boxes, q9, _, rfl, .inl (SqL.of (fx _ _ l9 nq9 nq9p)), (by show 1 ≤ sizeLine; decide), fun r hr => ?_⟩
  refine k.fin ea ((Stp.same (s1.trans s4)).trans S') C' hr ?_
  rw [List.length_map, hB9.len]
  rfl
end
end Db
end
section
/-! drift.py: edges_of, wm_box, wm_may, wm_round, wm_area, wm_drift, wm_ahead. -/
set_option Elab.async false
set_option linter.all false
set_option maxRecDepth 100000
namespace Db
open PySem PySem.Spec PyProof.Rows L2
open Km444 (Box Sea Desk)
abbrev sEdgesOf : Stmt := top 53
abbrev sWBox : Stmt := top 54
abbrev sMay : Stmt := top 55
abbrev sRound : Stmt := top 56
abbrev sArea : Stmt := top 57
abbrev sWDrift : Stmt := top 58
abbrev sAhead : Stmt := top 59
def edgesAt (bs : List Box) (n : Nat) : List Int := match bs[n]? with
  | none => [-2]
  | some b => 0 :: b.told
def spEdgesOf (W : Cl) : Sp := fun vs H Q _ => ∃ l bs, ∃ n : Nat, vs = [.ref l, .int n] ∧ LstAt W.B H l bs ∧ ∀ (H' : Hp) (r : Addr), Same H H' → H' r = none → Q (.ref r) (upd H' r (.lst ((edgesAt bs n).map V.int)))
section
variable {P : Program} {w : World} {K : PySem.W.Frag} {mg : Str → Option Value} {base : Heap} {W : Cl}
theorem scEdgesOf : FnScope ["boxes", "i"] ["boxes", "i"] (defScope sEdgesOf) := ⟨rfl, rfl, rfl, by decide +kernel, rfl, by decide +kernel, by decide +kernel⟩
theorem ok_edgesOf {f : Addr} {fd : FuncData} (F : Fun K "edges_of" "edges_of" sEdgesOf f fd) (E : En P w K mg base W) : FnOk P w K mg base CX0 2 f fd ["boxes", "i"] (spEdgesOf W) := by
  refine F.ok scEdgesOf (fun vs H Q E h => ?_) (fun cdv A outer s H vs Q X hr h => ?_)
  · obtain ⟨l, bs, n, rfl, _⟩ := h
    rfl
  · obtain ⟨l, bs, n, rfl, ⟨as, el, hB⟩, k⟩ := h
    refine ⟨_, pss_cons (ps_if (pt_cmpR op_ge (pv 1) (pe_callB call_len_seq rfl E.B.len PySem.boot_len (pa_cons (pv 0) pa_nil)) (nomark _)) (pss_one (ps_ret (pe_lst (pa_cons (pe_gi E.none_) pa_nil)))) pss_nil)
      (pss_one (ps_ret (pe_op op_cat (pe_lst (pa_cons pe_int pa_nil)) (pe_fn E.edges hr (pa_cons (pe_ix ix_list (pv 0) (pv 1) (fun _ _ => rfl)) pa_nil))))), ?_⟩
    refine ⟨_, rfl, _, rfl, l, _, rfl, .inl (SqL.of el), _, _, rfl, rfl, _, rfl, ?_⟩
    have len : as.length = bs.length := hB.len
    refine ite2 (fun h => ⟨(by show 1 ≤ sizeLine; decide), fun r hr => ?_⟩) (fun h => ?_)
    · have h' : bs.length ≤ n := by
        have := of_decide_eq_true h
        rw [List.length_map, len] at this
        omega
      have q := k H r (Same.refl H) hr
      unfold edgesAt at q
      rw [List.getElem?_eq_none_iff.mpr h'] at q
      exact q
    · have h' : n < bs.length := by
        have : ¬ (((as.map V.ref).length : Nat) : Int) ≤ (n : Int) := fun z => h (decide_eq_true z)
        rw [List.length_map, len] at this
        omega
      have eb : bs[n]? = some bs[n] := List.getElem?_eq_getElem h'
      obtain ⟨b, hb, hbx⟩ := hB.get' eb
      refine ⟨(by show 1 ≤ sizeLine; decide), fun q1 hq1 => ⟨_, rfl, _, rfl, l, _, _, .ref b, rfl, rfl, SqL.of (same_new hq1 _ _ el), at_of (j := n) rfl (by rw [List.getElem?_map, hb]; rfl), b, _, rfl, hbx.same (same_new hq1), fun H3 r3 s3 e3 => ?_⟩⟩
      refine ⟨q1, r3, _, _, rfl, rfl, s3 _ _ upd_same, e3, (by show 1 + 4 ≤ sizeLine; decide), fun r hr => ?_⟩
      have q := k _ r ((same_new hq1).trans s3) hr
      unfold edgesAt at q
      rw [eb] at q
      exact q

theorem scWBox : FnScope wmPs wmPs (defScope sWBox) := ⟨rfl, rfl, rfl, by decide +kernel, rfl, by decide +kernel, by decide +kernel⟩
theorem ok_wbox {f : Addr} {fd : FuncData} (F : Fun K "wm_box" "wm_box" sWBox f fd) (E : En P w K mg base W) (De : Df P w K mg base 2 "edges_of" ["boxes", "i"] (spEdgesOf W)) : FnOk P w K mg base CX0 8 f fd wmPs (spCall W 8) := by
  refine F.ok scWBox (fun vs H Q E h => len_call h) (fun cdv A outer s H vs Q X hr h => ?_)
  obtain ⟨g, c, gv, d, xs, x, rfl, R, hg, C, ok, pf, k⟩ := h
  cases R with
  | c8 n =>
  have hr2 : Room 2 _ := hr.mono (by decide)
  refine ⟨_, pss_one (ps_ret (pe_fn De hr2 (pa_cons (pe_sf E.TK E.TS E.TS.boxes (pv 0)) (pa_cons (pe_ix ix_list (pv 1) pe_int (fun _ _ => rfl)) pa_nil)))), ?_⟩
  obtain ⟨dx, a, le, ll, ap, af, dxs, lb, lL, cu, wi, p, N⟩ := now_of C
  refine ⟨c, dx, a, le, ll, dxs, _, _, rfl, N.cr.at_, N.se.at_, sf_boxes, _, rfl, gv, _, _, _, rfl, rfl, SqL.of hg, at_of (j := 0) rfl rfl, lb, _, n, rfl, N.se.bx.2, fun H1 r s1 hr => ?_⟩
  have ea : ∃ v o, Km444.act d (.box n) = (d, ⟨v, o⟩) ∧ v :: o = edgesAt d.now.boxes n := by
    show ∃ v o, (d, match d.now.boxes[n]? with | none => Km444.only (-2) | some b => ⟨0, b.told⟩) = (d, ⟨v, o⟩) ∧ v :: o = edgesAt d.now.boxes n
    unfold edgesAt
    cases d.now.boxes[n]? with
    | none => exact ⟨_, _, rfl, rfl⟩
    | some b => exact ⟨_, _, rfl, rfl⟩
  obtain ⟨v, o, ea, eo⟩ := ea
  exact k.fin ea (Stp.same s1) (C.same s1) hr (by rw [eo])

theorem scMay : FnScope ["course", "given", "place"] wmPs (defScope sMay) := ⟨rfl, rfl, rfl, by decide +kernel, rfl, by decide +kernel, by decide +kernel⟩
theorem ok_may {f : Addr} {fd : FuncData} (F : Fun K "wm_may" "wm_may" sMay f fd) (E : En P w K mg base W) : FnOk P w K mg base CX0 8 f fd wmPs (spCall W 9) := by
  refine F.ok scMay (fun vs H Q E h => len_call h) (fun cdv A outer s H vs Q X hr h => ?_)
  obtain ⟨g, c, gv, d, xs, x, rfl, R, hg, C, ok, pf, k⟩ := h
  cases R with
  | c9 x y =>
  have hr2 : Room 2 _ := hr.mono (by decide)
  refine ⟨_, pss_cons (ps_set (i := 2) scMay.nd rfl (Or.inl rfl) (pe_box E.MB hr2 (pa_cons (pe_ix ix_list (pv 1) pe_int (fun _ _ => rfl)) (pa_cons (pe_ix ix_list (pv 1) pe_int (fun _ _ => rfl)) (pa_cons (pe_ix ix_list (pv 1) pe_int (fun _ _ => rfl)) (pa_cons (pe_ix ix_list (pv 1) pe_int (fun _ _ => rfl)) pa_nil))))))
    (pss_one (ps_ret (pe_lst (pa_cons (pe_ifExp (pt_val (pe_fn E.inAny hr2 (pa_cons (pv 2) (pa_cons (pe_sf E.TK E.TS E.TS.boxes (pv 0)) pa_nil)))) pe_int pe_int) pa_nil)))), ?_⟩
  obtain ⟨dx, a, le, ll, ap, af, dxs, lb, lL, cu, wi, p, N⟩ := now_of C
  refine ⟨_, rfl, gv, _, _, _, rfl, rfl, SqL.of hg, at_of (j := 0) rfl rfl, _, rfl, gv, _, _, _, rfl, rfl, SqL.of hg, at_of (j := 0) rfl rfl, _, rfl, gv, _, _, _, rfl, rfl, SqL.of hg, at_of (j := 1) rfl rfl, _, rfl, gv, _, _, _, rfl, rfl, SqL.of hg, at_of (j := 1) rfl rfl, _, _, _, _, rfl, fun H1 b s1 hb => ?_⟩
  have N1 := N.same s1
  refine ⟨_, rfl, c, dx, a, le, ll, dxs, _, _, rfl, N1.cr.at_, N1.se.at_, sf_boxes, b, lb, _, _, rfl, hb, N1.se.bx.2, _, rfl, ?_⟩
  have ea : Km444.act d (.may x y) = (d, ⟨Km444.bit (d.now.boxes.any fun z => (⟨x, x, y, y⟩ : Box).inside z), []⟩) := rfl
  cases e : (d.now.boxes.any fun z => (⟨x, x, y, y⟩ : Box).inside z) with
  | true =>
    rw [e] at ea
    exact iteT ⟨(by show 1 ≤ sizeLine; decide), fun r hr => k.fin ea (Stp.same s1) N1.crs hr rfl⟩
  | false =>
    rw [e] at ea
    exact iteF ⟨(by show 1 ≤ sizeLine; decide), fun r hr => k.fin ea (Stp.same s1) N1.crs hr rfl⟩

theorem scRound : FnScope wmPs wmPs (defScope sRound) := ⟨rfl, rfl, rfl, by decide +kernel, rfl, by decide +kernel, by decide +kernel⟩
theorem ok_round {f : Addr} {fd : FuncData} (F : Fun K "wm_round" "wm_round" sRound f fd) (E : En P w K mg base W) : FnOk P w K mg base CX0 8 f fd wmPs (spCall W 10) := by
  refine F.ok scRound (fun vs H Q E h => len_call h) (fun cdv A outer s H vs Q X hr h => ?_)
  obtain ⟨g, c, gv, d, xs, x, rfl, R, hg, C, ok, pf, k⟩ := h
  cases R with
  | c10 =>
  have hr1 : Room 1 _ := hr.mono (by decide)
  have hr4 : Room 4 _ := hr.mono (by decide)
  refine ⟨_, pss_one (ps_ret (pe_op op_cat (pe_lst (pa_cons pe_int pa_nil)) (pe_fn E.edges hr1 (pa_cons (pe_fn E.round hr4 (pa_cons (pe_sf E.TK E.TS E.TS.boxes (pv 0)) pa_nil)) pa_nil)))), ?_⟩
  obtain ⟨dx, a, le, ll, ap, af, dxs, lb, lL, cu, wi, p, N⟩ := now_of C
  obtain ⟨b0, rest, eb⟩ := List.exists_cons_of_ne_nil ok.now.ne
  refine ⟨(by show 1 ≤ sizeLine; decide), fun q1 hq1 => ?_⟩
  have N1 := N.same (same_new (o := .lst [.int 0]) hq1)
  have hL := N1.se.bx.2
  rw [eb] at hL
  refine ⟨c, dx, a, le, ll, dxs, _, _, rfl, N1.cr.at_, N1.se.at_, sf_boxes, lb, b0, rest, rfl, hL, fun H2 wq s2 hw => ⟨wq, _, rfl, hw, fun H3 r3 s3 e3 => ?_⟩⟩
  refine ⟨q1, r3, _, _, rfl, rfl, s3 _ _ (s2 _ _ upd_same), e3, (by show 1 + 4 ≤ sizeLine; decide), fun r hr => ?_⟩
  have ea : Km444.act d .round = (d, ⟨0, (rest.foldl Box.join b0).told⟩) := by show (d, match d.now.round with | none => _ | some b => _) = _; rw [round_eq eb]
  have s := (same_new hq1).trans (s2.trans s3)
  exact k.fin ea (Stp.same s) (C.same s) hr rfl

abbrev areaN : List Str := ["course", "given", "boxes", "box"]
theorem scArea : FnScope areaN wmPs (defScope sArea) := ⟨rfl, rfl, rfl, by decide +kernel, rfl, by decide +kernel, by decide +kernel⟩
theorem ok_area {f : Addr} {fd : FuncData} (F : Fun K "wm_area" "wm_area" sArea f fd) (E : En P w K mg base W) : FnOk P w K mg base CX0 8 f fd wmPs (spCall W 11) := by
  refine F.ok scArea (fun vs H Q E h => len_call h) (fun cdv A outer s H vs Q X hr h => ?_)
  obtain ⟨g, c, gv, d, xs, x, rfl, R, hg, C, ok, pf, k⟩ := h
  cases R with
  | c11 =>
  have hr1 : Room 1 _ := hr.mono (by decide)
  refine ⟨_, pss_cons (ps_set (i := 2) scArea.nd rfl (Or.inl rfl) (pe_sf E.TK E.TS E.TS.boxes (pv 0)))
    (pss_one (ps_ret (pe_lst (pa_cons (pe_callB call_len_seq rfl E.B.len PySem.boot_len (pa_cons (pv 2) pa_nil)) (pa_cons (pe_callB (cr_sum rfl) rfl E.B.sum boot_sum (pa_cons (pe_lc (own := [("box", 3)]) rfl scArea.nd (pi_list (pv 2)) (blkOk_by (by show blkC areaN (defScope sArea) _ _ = true; decide +kernel))
      (fun s H C cl fp => pg_name (i := 3) scArea.nd rfl (Or.inl rfl)) (fun s H C' cl fp => pts_nil) (fun s H C' cl fp => pe_fn E.amount hr1 (pa_cons (pv 3) pa_nil))) pa_nil)) pa_nil))))), ?_⟩
  obtain ⟨dx, a, le, ll, ap, af, dxs, lb, lL, cu, wi, p, N⟩ := now_of C
  obtain ⟨nlb, asb, elb, hBb⟩ := N.se.bx
  have lenb : asb.length = d.now.boxes.length := hBb.len
  refine ⟨c, dx, a, le, ll, dxs, _, _, rfl, N.cr.at_, N.se.at_, sf_boxes, _, rfl, lb, _, rfl, .inl (SqL.of elb), _, rfl, lb, rfl, ⟨_, SqL.of elb⟩, fun D hD => ?_⟩
  refine lc_list (K := K) (a := lb) (xs := asb.map V.ref) (fun i H' => Same H H' ∧ H' D = some (.lst (((d.now.boxes.take i).map amt).map V.int))) ⟨same_new hD, upd_same⟩ (fun i H' _ ⟨s7, _⟩ => SqL.of (s7 _ _ elb)) ?_ ?_
  · rintro i x H' hi ⟨s1, hq⟩
    obtain ⟨e, he, rfl⟩ := get_map_ref hi
    obtain ⟨y, hy, hey⟩ := hBb.get he
    refine ⟨rfl, ?_⟩
    refine ⟨_, rfl, e, y, rfl, hey.same s1, seaBd ok (ok.now.bd y (List.mem_of_getElem? hy)), _, hq, ?_, Same.upd_new s1 hD, ?_⟩
    · rw [List.length_map, List.length_map, List.length_take, sizeLine_eq]
      have := ok.now.le4
      omega
    · rw [upd_same, take_snoc hy, List.map_append, List.map_append]; rfl
  · rintro H' ⟨s1, hq⟩
    rw [List.length_map, lenb, List.take_length] at hq
    refine ⟨D, _, rfl, SqL.of hq, (by show 2 ≤ sizeLine; decide), fun r hr => ?_⟩
    have ea : Km444.act d .area = (d, ⟨(d.now.boxes.length : Nat), [((d.now.boxes.map amt).sum : Int)]⟩) := by
      rw [area_sum fun b hb => (ok.now.bd b hb).full]
      rfl
    refine k.fin ea (Stp.same s1) (C.same s1) hr ?_
    rw [List.length_map, lenb]
    rfl

theorem scWDrift : FnScope wmPs wmPs (defScope sWDrift) := ⟨rfl, rfl, rfl, by decide +kernel, rfl, by decide +kernel, by decide +kernel⟩
theorem ok_wdrift {f : Addr} {fd : FuncData} (F : Fun K "wm_drift" "wm_drift" sWDrift f fd) (E : En P w K mg base W) : FnOk P w K mg base CX0 8 f fd wmPs (spCall W 12) := by
  refine F.ok scWDrift (fun vs H Q E h => len_call h) (fun cdv A outer s H vs Q X hr h => ?_)
  obtain ⟨g, c, gv, d, xs, x, rfl, R, hg, C, ok, pf, k⟩ := h
  cases R with
  | c12 =>
  have hr1 : Room 1 _ := hr.mono (by decide)
  have hr3 : Room 3 _ := hr.mono (by decide)
  refine ⟨_, pss_one (ps_ret (pe_op op_cat (pe_lst (pa_cons pe_int pa_nil)) (pe_fn E.edges hr1 (pa_cons (pe_mth0 E.drift E.TS.cl (pe_fld (pv 0) rfl) hr3) pa_nil)))), ?_⟩
  obtain ⟨dx, a, le, ll, ap, af, dxs, lb, lL, cu, wi, p, N⟩ := now_of C
  refine ⟨(by show 1 ≤ sizeLine; decide), fun q1 hq1 => ?_⟩
  have N1 := N.same (same_new (o := .lst [.int 0]) hq1)
  refine ⟨_, rfl, c, W.K, dx, _, _, rfl, N1.cr.at_, E.TK.cl, E.TK.sea, cf_sea, a, dxs, _, rfl, N1.se.at_, sf_drift, g, a, d.now, rfl, ⟨_, _, _, _, _, _, N1.se⟩, ok.now, fun H2 wq s2 hw => ⟨wq, _, rfl, hw, fun H3 r3 s3 e3 => ?_⟩⟩
  refine ⟨q1, r3, _, _, rfl, rfl, s3 _ _ (s2 _ _ upd_same), e3, (by show 1 + 4 ≤ sizeLine; decide), fun r hr => ?_⟩
  have ea : Km444.act d .drift = (d, ⟨0, (pDrift d.now).told⟩) := by rw [pDrift_eq]; rfl
  have s := (same_new hq1).trans (s2.trans s3)
  exact k.fin ea (Stp.same s) (C.same s) hr rfl

theorem scAhead : FnScope ["course", "given", "n", "boxes"] wmPs (defScope sAhead) := ⟨rfl, rfl, rfl, by decide +kernel, rfl, by decide +kernel, by decide +kernel⟩
theorem ok_ahead {f : Addr} {fd : FuncData} (F : Fun K "wm_ahead" "wm_ahead" sAhead f fd) (E : En P w K mg base W) (Dh : Df P w K mg base 1 "are_hours" ["n"] spAreHours) : FnOk P w K mg base CX0 8 f fd wmPs (spCall W 13) := by
  refine F.ok scAhead (fun vs H Q E h => len_call h) (fun cdv A outer s H vs Q X hr h => ?_)
  obtain ⟨g, c, gv, d, xs, x, rfl, R, hg, C, ok, pf, k⟩ := h
  cases R with
  | c13 n =>
  have hr1 : Room 1 _ := hr.mono (by decide)
  have hr4 : Room 4 _ := hr.mono (by decide)
  refine ⟨_, pss_cons (ps_set (i := 2) scAhead.nd rfl (Or.inl rfl) (pe_ix ix_list (pv 1) pe_int (fun _ _ => rfl)))
    (pss_cons (ps_if (pt_not (pt_val (pe_fn Dh hr1 (pa_cons (pv 2) pa_nil)))) (pss_one (ps_ret (pe_lst (pa_cons (pe_gi E.na) pa_nil)))) pss_nil)
    (pss_cons (ps_set (i := 3) scAhead.nd rfl (Or.inl rfl) (pe_mth E.after E.TS.cl (pe_fld (pv 0) rfl) hr (pa_cons (pv 2) pa_nil)))
    (pss_cons (ps_if (pt_not (pt_truth (pv 3) (fun _ => rfl))) (pss_one (ps_ret (pe_lst (pa_cons (pe_gi E.nowhere) pa_nil)))) pss_nil)
    (pss_one (ps_ret (pe_op op_cat (pe_lst (pa_cons (pe_callB call_len_seq rfl E.B.len PySem.boot_len (pa_cons (pv 3) pa_nil)) pa_nil)) (pe_fn E.edges hr1 (pa_cons (pe_fn E.round hr4 (pa_cons (pv 3) pa_nil)) pa_nil)))))))), ?_⟩
  obtain ⟨dx, a, le, ll, ap, af, dxs, lb, lL, cu, wi, p, N⟩ := now_of C
  refine ⟨_, rfl, gv, _, _, _, rfl, rfl, SqL.of hg, at_of (j := 0) rfl rfl, ?_⟩
  refine ⟨_, rfl, (n : Int), rfl, _, rfl, ?_⟩
  rw [hours_ok]
  by_cases h1 : n = 0 ∨ 24 < n
  · rw [decide_eq_true h1]
    refine iteT ⟨(by show 1 ≤ sizeLine; decide), fun q hq => ?_⟩
    have ea : Km444.act d (.ahead n) = (d, ⟨-22, []⟩) := by show (d, if _ then _ else _) = _; rw [if_pos h1]; rfl
    exact k.fin ea Stp.refl C hq rfl
  rw [decide_eq_false h1]
  refine iteF ?_
  have okn : SeaOk (g.S a) := by rw [← N.cr.now]; exact ok.now
  refine ⟨_, rfl, c, W.K, dx, _, _, rfl, N.cr.at_, E.TK.cl, E.TK.sea, cf_sea, a, dxs, _, rfl, N.se.at_, sf_after, _, rfl, g, a, n, rfl, N.cr.tg, N.cr.sa, okn, (by omega), fun H1 l A1 L1 => ?_⟩
  rw [← N.cr.now] at L1
  obtain ⟨dxs, lb, lL, cu, wi, p, N1⟩ := N.aft A1
  have S1 := A1.stp
  obtain ⟨nl, as1, e1, hB1⟩ := L1
  refine ⟨_, rfl, _, .inl ⟨_, SqL.of e1, rfl⟩, ?_⟩
  rw [emp_of hB1]
  have eb : (d.now.hours n).boxes = hoursOn d.now n d.now.boxes := by rw [hours_eq]
  have lenB := hB1.len
  cases h3 : hoursOn d.now n d.now.boxes with
  | nil =>
    refine iteT ⟨(by show 1 ≤ sizeLine; decide), fun q hq => ?_⟩
    have er : (d.now.hours n).round = none := by unfold Km444.Sea.round; rw [eb, h3]
    have ea : Km444.act d (.ahead n) = (d, ⟨-33, []⟩) := by show (d, if _ then _ else match (d.now.hours n).round with | none => _ | some b => _) = _; rw [if_neg h1, er]; rfl
    exact k.fin ea S1 N1.crs hq rfl
  | cons b0 rest =>
  refine iteF ?_
  rw [h3] at hB1 lenB
  have ea : Km444.act d (.ahead n) = (d, ⟨((b0 :: rest).length : Nat), (rest.foldl Box.join b0).told⟩) := by
    show (d, if _ then _ else match (d.now.hours n).round with | none => _ | some b => _) = _
    rw [if_neg h1, round_eq (s := d.now.hours n) (b := b0) (l := rest) (by rw [eb, h3]), eb, h3]
  refine ⟨_, rfl, l, _, rfl, .inl (SqL.of e1), (by show 1 ≤ sizeLine; decide), fun q1 hq1 => ?_⟩
  have s1 : Same H1 (upd H1 q1 (.lst [.int ((as1.map V.ref).length : Nat)])) := same_new hq1
  refine ⟨_, rfl, l, b0, rest, rfl, ⟨as1, s1 _ _ e1, Bxs.same s1 hB1⟩, fun H2 wq s2 hw => ⟨wq, _, rfl, hw, fun H3 r3 s3 e3 => ?_⟩⟩
  refine ⟨q1, r3, _, _, rfl, rfl, s3 _ _ (s2 _ _ upd_same), e3, (by show 1 + 4 ≤ sizeLine; decide), fun r hr => ?_⟩
  have s := s1.trans (s2.trans s3)
  refine k.fin ea (S1.trans (Stp.same s)) (N1.same s).crs hr ?_
  rw [List.length_map, lenB]
  rfl
end
end Db
end
section
/-! drift.py: the other calls. -/
set_option Elab.async false
set_option linter.all false
set_option maxRecDepth 100000
namespace Db
open PySem PySem.Spec PyProof.Rows L2
open Km444 (Box Sea Desk)
abbrev sReaches : Stmt := top 60
abbrev sBest : Stmt := top 61
abbrev sCentre : Stmt := top 62
abbrev sWidest : Stmt := top 63
abbrev sLands : Stmt := top 64
abbrev sShore : Stmt := top 65
abbrev sTold : Stmt := top 66
abbrev sBack : Stmt := top 67
abbrev sAgain : Stmt := top 68
abbrev sState : Stmt := top 69
section
variable {P : Program} {w : World} {K : PySem.W.Frag} {mg : Str → Option Value} {base : Heap} {W : Cl}

theorem scReaches : FnScope ["course", "given", "goal", "n"] wmPs (defScope sReaches) := ⟨rfl, rfl, rfl, by decide +kernel, rfl, by decide +kernel, by decide +kernel⟩
theorem ok_reaches {f : Addr} {fd : FuncData} (F : Fun K "wm_reaches" "wm_reaches" sReaches f fd) (E : En P w K mg base W) : FnOk P w K mg base CX0 8 f fd wmPs (spCall W 14) := by
  refine F.ok scReaches (fun vs H Q E h => len_call h) (fun cdv A outer s H vs Q X hr h => ?_)
  obtain ⟨g, c, gv, d, xs, x, rfl, R, hg, C, ok, pf, k⟩ := h
  cases R with
  | c14 west east south north =>
  have hr2 : Room 2 _ := hr.mono (by decide)
  have hr3 : Room 3 _ := hr.mono (by decide)
  have hr4 : Room 4 _ := hr.mono (by decide)
  refine ⟨_, (pss_cons (ps_set (i := 2) scReaches.nd rfl (Or.inl rfl) (pe_fn E.told hr3 (pa_cons (pv 1) pa_nil))) (pss_cons (ps_if (pt_not (pt_val (pe_fn E.within hr2 (pa_cons (pv 2) (pa_cons (pe_gi E.sought) pa_nil))))) (pss_one (ps_ret (pe_lst (pa_cons (pe_gi E.na) pa_nil)))) pss_nil) (pss_cons (ps_for PassesOwn.never rfl (pi_range1 rfl E.B.range (pa_cons (pe_op op_add (pe_gi E.ahead) pe_int) pa_nil)) (pg_name (i := 3) scReaches.nd rfl (Or.inl rfl))
      (pss_one (ps_if (pt_truth (pe_fn E.narrowed hr4 (pa_cons (pe_mth E.after E.TS.cl (pe_fld (pv 0) rfl) hr (pa_cons (pv 3) pa_nil)) (pa_cons (pv 2) pa_nil))) (fun _ => rfl)) (pss_one (ps_ret (pe_lst (pa_cons (pv 3) pa_nil)))) pss_nil)))
    (pss_one (ps_ret (pe_lst (pa_cons (pe_gi E.nowhere) pa_nil))))))), ?_⟩
  refine hd_box (K := K) (W := W) (lim := 3000000) rfl hg (by show 2 < 4; decide) (fun h H1 q s1 hq => ?_) (fun h1 H1 b s1 hb => ?_)
  · have ea : Km444.act d (.reaches west east south north) = (d, ⟨-22, []⟩) := by show (d, if _ then _ else _) = _; rw [if_pos (show Km444.okBox (3 * Km444.FAR) ⟨west, east, south, north⟩ = false from h)]; rfl
    exact k.fin ea (Stp.same s1) (C.same s1) hq rfl
  have n1 : ¬ Km444.okBox (3 * Km444.FAR) ⟨west, east, south, north⟩ = false := by rw [show Km444.okBox (3 * Km444.FAR) ⟨west, east, south, north⟩ = true from h1]; decide
  refine ⟨_, _, rfl, rfl, _, rfl, (by decide), (by decide), for_range (lo := 0) (n := 49) (fun i σ H' => ∃ v : Option V, σ = [some (.ref c), some (.ref gv), some (.ref b), v] ∧ Stp g g H H' ∧ Crs W g H' c d ∧ BoxAt W.B H' b ⟨west, east, south, north⟩ ∧ ∀ m, m < i → met d.now ⟨west, east, south, north⟩ m = false)
    ⟨none, rfl, Stp.same s1, C.same s1, hb, fun m hm => absurd hm (Nat.not_lt_zero _)⟩ ?_ ?_⟩
  · rintro i σ H2 hi ⟨v, rfl, S2, C2, hb2, hm⟩
    obtain ⟨dx, a, le, ll, ap, af, dxs, lb, lL, cu, wi, p, N⟩ := now_of C2
    have okn : SeaOk (g.S a) := by rw [← N.cr.now]; exact ok.now
    refine ⟨_, rfl, c, W.K, dx, _, _, rfl, N.cr.at_, E.TK.cl, E.TK.sea, cf_sea, a, dxs, _, rfl, N.se.at_, sf_after, _, rfl, g, a, i, (by rw [Int.zero_add]), N.cr.tg, N.cr.sa, okn, (by omega), fun H3 l A3 L3 => ?_⟩
    rw [← N.cr.now] at L3
    have S3 := A3.stp
    have hb3 := S3.box N.cr.tg hb2
    obtain ⟨dxs, lb, lL, cu, wi, p, N3⟩ := N.aft A3
    have h4 := hoursOn_len ok.now.le4 i
    refine ⟨_, rfl, l, b, _, _, rfl, L3.2, hb3, (by omega), fun H4 q4 s4 ⟨as4, e4, hB4⟩ => ?_⟩
    refine ⟨_, .inl ⟨_, SqL.of e4, rfl⟩, ?_⟩
    rw [emp_of hB4, ← met_iff]
    have N4 := N3.same s4
    have S4 := S2.trans (S3.trans (Stp.same s4))
    refine ite2 (fun ht => ⟨_, rfl, (by show 1 ≤ sizeLine; decide), fun r hr => ?_⟩) (fun ht => ⟨_, rfl, S4, N4.crs, hb3.same s4, fun m hm' => ?_⟩)
    · have ea : Km444.act d (.reaches west east south north) = (d, ⟨(i : Nat), []⟩) := by
        show (d, if _ then _ else match Km444.reachGo 49 0 d.now ⟨west, east, south, north⟩ with | none => _ | some k => _) = _
        rw [if_neg n1, reach_at hi hm ht]
        rfl
      refine k.fin ea S4 N4.crs hr ?_
      rw [Int.zero_add]
      rfl
    · by_cases hmi : m < i
      · exact hm m hmi
      · have : m = i := by omega
        subst this
        show ((hoursOn d.now m d.now.boxes).any fun x => (x.meet ⟨west, east, south, north⟩).full) = false
        exact Bool.eq_false_iff.mpr ht
  · rintro σ H2 ⟨v, rfl, S2, C2, hb2, hm⟩
    refine ⟨(by show 1 ≤ sizeLine; decide), fun r hr => ?_⟩
    have ea : Km444.act d (.reaches west east south north) = (d, ⟨-33, []⟩) := by
      show (d, if _ then _ else match Km444.reachGo 49 0 d.now ⟨west, east, south, north⟩ with | none => _ | some k => _) = _
      rw [if_neg n1, reach_no hm]
      rfl
    exact k.fin ea S2 C2 hr rfl

abbrev bestN : List Str := ["course", "given", "amounts", "least", "box"]
theorem scBest : FnScope bestN wmPs (defScope sBest) := ⟨rfl, rfl, rfl, by decide +kernel, rfl, by decide +kernel, by decide +kernel⟩
theorem ok_best {f : Addr} {fd : FuncData} (F : Fun K "wm_best" "wm_best" sBest f fd) (E : En P w K mg base W) : FnOk P w K mg base CX0 8 f fd wmPs (spCall W 15) := by
  refine F.ok scBest (fun vs H Q E h => len_call h) (fun cdv A outer s H vs Q X hr h => ?_)
  obtain ⟨g, c, gv, d, xs, x, rfl, R, hg, C, ok, pf, k⟩ := h
  cases R with
  | c15 =>
  have hr1 : Room 1 _ := hr.mono (by decide)
  refine ⟨_, pss_cons (ps_setLc (i := 2) (own := [("box", 4)]) rfl scBest.nd rfl rfl (sw_true rfl rfl rfl (by decide +kernel)) (pi_list (pe_sf E.TK E.TS E.TS.boxes (pv 0))) (blkOk_by (by show blkC bestN (defScope sBest) _ _ = true; decide +kernel))
      (fun s H C cl fp => pg_name (i := 4) scBest.nd rfl (Or.inl rfl)) (fun s H C' cl fp => pts_nil) (fun s H C' cl fp => pe_fn E.amount hr1 (pa_cons (pv 4) pa_nil)))
    (pss_cons (ps_set (i := 3) scBest.nd rfl (Or.inl rfl) (pe_callB (cr_min rfl) rfl E.B.min boot_min (pa_cons (pv 2) pa_nil)))
    (pss_one (ps_ret (pe_lst (pa_cons (pe_bm PySem.F.plainAttrs_list PySem.F.slot_list_index PySem.F.type_list_index mt_index (pv 2) (pa_cons (pv 3) pa_nil)) (pa_cons (pv 3) pa_nil)))))), ?_⟩
  obtain ⟨dx, a, le, ll, ap, af, dxs, lb, lL, cu, wi, p, N⟩ := now_of C
  obtain ⟨nlb, asb, elb, hBb⟩ := N.se.bx
  have lenb : asb.length = d.now.boxes.length := hBb.len
  refine ⟨c, dx, a, le, ll, dxs, _, _, rfl, N.cr.at_, N.se.at_, sf_boxes, lb, rfl, ⟨_, SqL.of elb⟩, fun D hD => ?_⟩
  refine lc_list (K := K) (a := lb) (xs := asb.map V.ref) (fun i H' => Same H H' ∧ H' D = some (.lst (((d.now.boxes.take i).map amt).map V.int))) ⟨same_new hD, upd_same⟩ (fun i H' _ ⟨s7, _⟩ => SqL.of (s7 _ _ elb)) ?_ ?_
  · rintro i x H' hi ⟨s1, hq⟩
    obtain ⟨e, he, rfl⟩ := get_map_ref hi
    obtain ⟨y, hy, hey⟩ := hBb.get he
    refine ⟨rfl, ?_⟩
    refine ⟨_, rfl, e, y, rfl, hey.same s1, seaBd ok (ok.now.bd y (List.mem_of_getElem? hy)), _, hq, ?_, Same.upd_new s1 hD, ?_⟩
    · rw [List.length_map, List.length_map, List.length_take, sizeLine_eq]
      have := ok.now.le4
      omega
    · rw [upd_same, take_snoc hy, List.map_append, List.map_append]; rfl
  · rintro H' ⟨s1, hq⟩
    rw [List.length_map, lenb, List.take_length] at hq
    obtain ⟨j, hj, jl, ej, hle, hne⟩ := least_is ok.now.ne fun b hb => (ok.now.bd b hb).full
    have hpos : 0 < (d.now.boxes.map amt).length := by rw [List.length_map]; exact List.length_pos_iff.mpr ok.now.ne
    refine ⟨_, rfl, D, _, rfl, SqL.of hq, hpos, fun m hm hml => ?_⟩
    have em : m = (((d.now.boxes.getD j Km444.zero).area : Nat) : Int) := Int.le_antisymm (hml _ (List.mem_of_getElem? ej)) (hle m hm)
    subst em
    refine ⟨_, rfl, .inl ⟨rfl, _, SqL.of hq⟩, _, rfl, D, _, _, j, .int (((d.now.boxes.getD j Km444.zero).area : Nat) : Int), rfl, rfl, SqL.of hq, rfl, ?_, ?_, ?_, ?_, ?_⟩
    · rw [List.all_eq_true]
      intro z hz
      obtain ⟨i, _, rfl⟩ := List.mem_map.mp hz
      rfl
    · rw [List.getElem?_map, ej]; rfl
    · show ((((d.now.boxes.getD j Km444.zero).area : Nat) : Int) == (((d.now.boxes.getD j Km444.zero).area : Nat) : Int)) = true
      exact beq_self_eq_true _
    · intro m z hm hz
      rw [List.getElem?_map] at hz
      cases e : (d.now.boxes.map amt)[m]? with
      | none => rw [e] at hz; cases hz
      | some y =>
        rw [e] at hz
        cases hz
        show (y == (((d.now.boxes.getD j Km444.zero).area : Nat) : Int)) = false
        exact beq_eq_false_iff_ne.mpr (hne m y hm e)
    · refine ⟨_, rfl, (by show 2 ≤ sizeLine; decide), fun r hr => ?_⟩
      have ea : Km444.act d .best = (d, ⟨(j : Nat), [((d.now.boxes.getD j Km444.zero).area : Nat)]⟩) := by
        show (d, match d.now.least with | none => _ | some i => _) = _
        rw [hj]
      exact k.fin ea (Stp.same s1) (C.same s1) hr rfl

theorem scCentre : FnScope ["course", "given", "whole"] wmPs (defScope sCentre) := ⟨rfl, rfl, rfl, by decide +kernel, rfl, by decide +kernel, by decide +kernel⟩
theorem ok_centre {f : Addr} {fd : FuncData} (F : Fun K "wm_centre" "wm_centre" sCentre f fd) (E : En P w K mg base W) : FnOk P w K mg base CX0 8 f fd wmPs (spCall W 16) := by
  refine F.ok scCentre (fun vs H Q E h => len_call h) (fun cdv A outer s H vs Q X hr h => ?_)
  obtain ⟨g, c, gv, d, xs, x, rfl, R, hg, C, ok, pf, k⟩ := h
  cases R with
  | c16 =>
  have hr4 : Room 4 _ := hr.mono (by decide)
  refine ⟨_, pss_cons (ps_set (i := 2) scCentre.nd rfl (Or.inl rfl) (pe_fn E.round hr4 (pa_cons (pe_sf E.TK E.TS E.TS.boxes (pv 0)) pa_nil)))
    (pss_one (ps_ret (pe_lst (pa_cons pe_int (pa_cons (pe_op op_fdiv (pe_op op_add (vW E.TB 2 (pv 2)) (vE E.TB 2 (pv 2))) pe_int) (pa_cons (pe_op op_fdiv (pe_op op_add (vS E.TB 2 (pv 2)) (vN E.TB 2 (pv 2))) pe_int) pa_nil)))))), ?_⟩
  obtain ⟨dx, a, le, ll, ap, af, dxs, lb, lL, cu, wi, p, N⟩ := now_of C
  obtain ⟨b0, rest, eb⟩ := List.exists_cons_of_ne_nil ok.now.ne
  have hL := N.se.bx.2
  rw [eb] at hL
  refine ⟨c, dx, a, le, ll, dxs, _, _, rfl, N.cr.at_, N.se.at_, sf_boxes, lb, b0, rest, rfl, hL, fun H2 wq s2 hw => ?_⟩
  refine ⟨wq, _, rfl, hw, wq, _, rfl, hw, _, _, rfl, rfl, _, _, rfl, rfl, ⟨by decide, by decide⟩, wq, _, rfl, hw, wq, _, rfl, hw, _, _, rfl, rfl, _, _, rfl, rfl, ⟨by decide, by decide⟩, (by show 3 ≤ sizeLine; decide), fun r hr => ?_⟩
  have ea : Km444.act d .centre = (d, ⟨0, [((rest.foldl Box.join b0).w + (rest.foldl Box.join b0).e) / 2, ((rest.foldl Box.join b0).s + (rest.foldl Box.join b0).n) / 2]⟩) := by show (d, match d.now.round with | none => _ | some b => _) = _; rw [round_eq eb]
  have s := s2
  exact k.fin ea (Stp.same s) (C.same s) hr rfl

theorem scWidest : FnScope ["course", "given", "whole"] wmPs (defScope sWidest) := ⟨rfl, rfl, rfl, by decide +kernel, rfl, by decide +kernel, by decide +kernel⟩
theorem ok_widest {f : Addr} {fd : FuncData} (F : Fun K "wm_widest" "wm_widest" sWidest f fd) (E : En P w K mg base W) : FnOk P w K mg base CX0 8 f fd wmPs (spCall W 17) := by
  refine F.ok scWidest (fun vs H Q E h => len_call h) (fun cdv A outer s H vs Q X hr h => ?_)
  obtain ⟨g, c, gv, d, xs, x, rfl, R, hg, C, ok, pf, k⟩ := h
  cases R with
  | c17 =>
  have hr4 : Room 4 _ := hr.mono (by decide)
  refine ⟨_, pss_cons (ps_set (i := 2) scWidest.nd rfl (Or.inl rfl) (pe_fn E.round hr4 (pa_cons (pe_sf E.TK E.TS E.TS.boxes (pv 0)) pa_nil)))
    (pss_one (ps_ret (pe_lst (pa_cons pe_int (pa_cons (pe_op op_sub (vE E.TB 2 (pv 2)) (vW E.TB 2 (pv 2))) (pa_cons (pe_op op_sub (vN E.TB 2 (pv 2)) (vS E.TB 2 (pv 2))) pa_nil)))))), ?_⟩
  obtain ⟨dx, a, le, ll, ap, af, dxs, lb, lL, cu, wi, p, N⟩ := now_of C
  obtain ⟨b0, rest, eb⟩ := List.exists_cons_of_ne_nil ok.now.ne
  have hL := N.se.bx.2
  rw [eb] at hL
  refine ⟨c, dx, a, le, ll, dxs, _, _, rfl, N.cr.at_, N.se.at_, sf_boxes, lb, b0, rest, rfl, hL, fun H2 wq s2 hw => ?_⟩
  refine ⟨wq, _, rfl, hw, wq, _, rfl, hw, _, _, rfl, rfl, wq, _, rfl, hw, wq, _, rfl, hw, _, _, rfl, rfl, (by show 3 ≤ sizeLine; decide), fun r hr => ?_⟩
  have ea : Km444.act d .widest = (d, ⟨0, [(rest.foldl Box.join b0).e - (rest.foldl Box.join b0).w, (rest.foldl Box.join b0).n - (rest.foldl Box.join b0).s]⟩) := by show (d, match d.now.round with | none => _ | some b => _) = _; rw [round_eq eb]
  have s := s2
  exact k.fin ea (Stp.same s) (C.same s) hr rfl

theorem scLands : FnScope ["course", "given", "sea"] wmPs (defScope sLands) := ⟨rfl, rfl, rfl, by decide +kernel, rfl, by decide +kernel, by decide +kernel⟩
theorem ok_lands {f : Addr} {fd : FuncData} (F : Fun K "wm_lands" "wm_lands" sLands f fd) (E : En P w K mg base W) : FnOk P w K mg base CX0 8 f fd wmPs (spCall W 18) := by
  refine F.ok scLands (fun vs H Q E h => len_call h) (fun cdv A outer s H vs Q X hr h => ?_)
  obtain ⟨g, c, gv, d, xs, x, rfl, R, hg, C, ok, pf, k⟩ := h
  cases R with
  | c18 =>
  refine ⟨_, pss_cons (ps_set (i := 2) scLands.nd rfl (Or.inl rfl) (pe_fld (pv 0) rfl))
    (pss_one (ps_ret (pe_lst (pa_cons (pe_callB call_len_seq rfl E.B.len PySem.boot_len (pa_cons (pe_fld (pv 2) rfl) pa_nil)) (pa_cons (pe_fld (pv 2) rfl) (pa_cons (pe_fld (pv 2) rfl) pa_nil)))))), ?_⟩
  obtain ⟨dx, a, le, ll, ap, af, dxs, lb, lL, cu, wi, p, N⟩ := now_of C
  obtain ⟨nl, asl, el, hBl⟩ := N.se.ld
  refine ⟨_, rfl, c, W.K, dx, _, _, rfl, N.cr.at_, E.TK.cl, E.TK.sea, cf_sea, _, rfl, a, W.S, dxs, _, _, rfl, N.se.at_, E.TS.cl, E.TS.lands, sf_lands, lL, _, rfl, .inl (SqL.of el), _, rfl, a, W.S, dxs, _, _, rfl, N.se.at_, E.TS.cl, E.TS.lo, sf_lo, _, rfl, a, W.S, dxs, _, _, rfl, N.se.at_, E.TS.cl, E.TS.hi, sf_hi, (by show 3 ≤ sizeLine; decide), fun r hr => ?_⟩
  have ea : Km444.act d .lands = (d, ⟨(d.now.lands.length : Nat), [d.now.lo, d.now.hi]⟩) := rfl
  refine k.fin ea Stp.refl C hr ?_
  rw [List.length_map, hBl.len]
  rfl

theorem scShore : FnScope wmPs wmPs (defScope sShore) := ⟨rfl, rfl, rfl, by decide +kernel, rfl, by decide +kernel, by decide +kernel⟩
theorem ok_shore {f : Addr} {fd : FuncData} (F : Fun K "wm_shore" "wm_shore" sShore f fd) (E : En P w K mg base W) (De : Df P w K mg base 2 "edges_of" ["boxes", "i"] (spEdgesOf W)) : FnOk P w K mg base CX0 8 f fd wmPs (spCall W 19) := by
  refine F.ok scShore (fun vs H Q E h => len_call h) (fun cdv A outer s H vs Q X hr h => ?_)
  obtain ⟨g, c, gv, d, xs, x, rfl, R, hg, C, ok, pf, k⟩ := h
  cases R with
  | c19 n =>
  have hr2 : Room 2 _ := hr.mono (by decide)
  refine ⟨_, pss_one (ps_ret (pe_fn De hr2 (pa_cons (pe_sf E.TK E.TS E.TS.lands (pv 0)) (pa_cons (pe_ix ix_list (pv 1) pe_int (fun _ _ => rfl)) pa_nil)))), ?_⟩
  obtain ⟨dx, a, le, ll, ap, af, dxs, lb, lL, cu, wi, p, N⟩ := now_of C
  refine ⟨c, dx, a, le, ll, dxs, _, _, rfl, N.cr.at_, N.se.at_, sf_lands, _, rfl, gv, _, _, _, rfl, rfl, SqL.of hg, at_of (j := 0) rfl rfl, lL, _, n, rfl, N.se.ld.2, fun H1 r s1 hr => ?_⟩
  have ea : ∃ v o, Km444.act d (.shore n) = (d, ⟨v, o⟩) ∧ v :: o = edgesAt d.now.lands n := by
    show ∃ v o, (d, match d.now.lands[n]? with | none => Km444.only (-2) | some b => ⟨0, b.told⟩) = (d, ⟨v, o⟩) ∧ v :: o = edgesAt d.now.lands n
    unfold edgesAt
    cases d.now.lands[n]? with
    | none => exact ⟨_, _, rfl, rfl⟩
    | some b => exact ⟨_, _, rfl, rfl⟩
  obtain ⟨v, o, ea, eo⟩ := ea
  exact k.fin ea (Stp.same s1) (C.same s1) hr (by rw [eo])

theorem scTold : FnScope wmPs wmPs (defScope sTold) := ⟨rfl, rfl, rfl, by decide +kernel, rfl, by decide +kernel, by decide +kernel⟩
theorem ok_told {f : Addr} {fd : FuncData} (F : Fun K "wm_told" "wm_told" sTold f fd) (E : En P w K mg base W) : FnOk P w K mg base CX0 8 f fd wmPs (spCall W 20) := by
  refine F.ok scTold (fun vs H Q E h => len_call h) (fun cdv A outer s H vs Q X hr h => ?_)
  obtain ⟨g, c, gv, d, xs, x, rfl, R, hg, C, ok, pf, k⟩ := h
  cases R with
  | c20 =>
  have hr1 : Room 1 _ := hr.mono (by decide)
  refine ⟨_, pss_one (ps_ret (pe_op op_cat (pe_op op_cat (pe_lst (pa_cons pe_int pa_nil)) (pe_fn E.edges hr1 (pa_cons (pe_sf E.TK E.TS E.TS.current (pv 0)) pa_nil))) (pe_fn E.edges hr1 (pa_cons (pe_sf E.TK E.TS E.TS.wind (pv 0)) pa_nil)))), ?_⟩
  obtain ⟨dx, a, le, ll, ap, af, dxs, lb, lL, cu, wi, p, N⟩ := now_of C
  refine ⟨(by show 1 ≤ sizeLine; decide), fun q1 hq1 => ?_⟩
  have N1 := N.same (same_new (o := .lst [.int 0]) hq1)
  refine ⟨c, dx, a, le, ll, dxs, _, _, rfl, N1.cr.at_, N1.se.at_, sf_current, cu, _, rfl, N1.se.cu, fun H3 r3 s3 e3 => ?_⟩
  refine ⟨q1, r3, _, _, rfl, rfl, s3 _ _ upd_same, e3, (by show 1 + 4 ≤ sizeLine; decide), fun q4 hq4 => ?_⟩
  have s4 := s3.trans (same_new (o := .lst ([.int 0] ++ d.now.current.told.map V.int)) hq4)
  have N4 := N1.same s4
  refine ⟨c, dx, a, le, ll, dxs, _, _, rfl, N4.cr.at_, N4.se.at_, sf_wind, wi, _, rfl, N4.se.wi, fun H5 r5 s5 e5 => ?_⟩
  refine ⟨q4, r5, _, _, rfl, rfl, s5 _ _ upd_same, e5, (by show 5 + 4 ≤ sizeLine; decide), fun r hr => ?_⟩
  have ea : Km444.act d .told = (d, ⟨0, d.now.current.told ++ d.now.wind.told⟩) := rfl
  have s := (same_new hq1).trans (s4.trans s5)
  exact k.fin ea (Stp.same s) (C.same s) hr rfl

theorem scBack : FnScope wmPs wmPs (defScope sBack) := ⟨rfl, rfl, rfl, by decide +kernel, rfl, by decide +kernel, by decide +kernel⟩
theorem ok_back {f : Addr} {fd : FuncData} (F : Fun K "wm_back" "wm_back" sBack f fd) (E : En P w K mg base W) : FnOk P w K mg base CX0 8 f fd wmPs (spCall W 21) := by
  refine F.ok scBack (fun vs H Q E h => len_call h) (fun cdv A outer s H vs Q X hr h => ?_)
  obtain ⟨g, c, gv, d, xs, x, rfl, R, hg, C, ok, pf, k⟩ := h
  cases R with
  | c21 =>
  have hr1 : Room 1 _ := hr.mono (by decide)
  refine ⟨_, pss_cons (ps_if (pt_not (pt_truth (pe_fld (pv 0) rfl) (fun _ => rfl))) (pss_one (ps_ret (pe_lst (pa_cons (pe_gi E.none_) pa_nil)))) pss_nil)
    (pss_cons (ps_expr (pe_mth0 E.back E.TK.cl (pv 0) hr1)) (pss_one (ps_ret (pe_lst (pa_cons (pe_callB call_len_seq rfl E.B.len PySem.boot_len (pa_cons (pe_fld (pv 0) rfl) pa_nil)) pa_nil))))), ?_⟩
  obtain ⟨dx, a, le, ll, ap, af, N⟩ := C
  have C : Crs W g H c d := ⟨_, _, _, _, _, _, N⟩
  refine ⟨_, rfl, c, W.K, dx, _, _, rfl, N.at_, E.TK.cl, E.TK.earlier, cf_earlier, _, .inl ⟨_, SqL.of N.er, rfl⟩, ?_⟩
  cases ap with
  | nil =>
    refine iteT ⟨(by show 1 ≤ sizeLine; decide), fun r hr => ?_⟩
    have ep : d.past = [] := N.past
    have ea : Km444.act d .back = (d, ⟨-2, []⟩) := by show (match d.past with | [] => _ | k :: r => _) = _; rw [ep]; rfl
    exact k.fin ea Stp.refl C hr rfl
  | cons x r =>
    have e1 : ((!(((x :: r).reverse.map V.ref).isEmpty)) : Bool) = true := by rw [List.reverse_cons, List.map_append]; cases r.reverse.map V.ref <;> rfl
    rw [e1]
    refine iteF ?_
    have pf' : af.length ≤ 20 := by
      unfold PF at pf
      rw [N.fut, List.length_map] at pf
      omega
    have ea : Km444.act d .back = (⟨g.S x, r.map g.S, (a :: af).map g.S⟩, ⟨(r.length : Nat), []⟩) := by
      show (match d.past with | [] => _ | k :: r => _) = _
      rw [N.past, N.fut, N.now]
      show (_, Km444.only (((r.map g.S).length : Nat) : Int)) = _
      rw [List.length_map]
      rfl
    refine ⟨_, rfl, c, dx, _, rfl, N.at_, cf_back, g, c, d, dx, a, le, ll, x, r, af, rfl, N, pf', fun H1 C1 S1 => ?_⟩
    obtain ⟨dx2, a2, le2, ll2, ap2, af2, N2⟩ := C1
    have el : ap2.length = r.length := by
      have := congrArg List.length N2.past
      rw [List.length_map, List.length_map] at this
      exact this.symm
    refine ⟨_, rfl, c, W.K, dx2, _, _, rfl, N2.at_, E.TK.cl, E.TK.earlier, cf_earlier, le2, _, rfl, .inl (SqL.of N2.er), (by show 1 ≤ sizeLine; decide), fun q hq => ?_⟩
    refine k.fin ea S1 ⟨_, _, _, _, _, _, N2⟩ hq ?_
    rw [List.length_map, List.length_reverse, el]
    rfl

theorem scAgain : FnScope wmPs wmPs (defScope sAgain) := ⟨rfl, rfl, rfl, by decide +kernel, rfl, by decide +kernel, by decide +kernel⟩
theorem ok_again {f : Addr} {fd : FuncData} (F : Fun K "wm_again" "wm_again" sAgain f fd) (E : En P w K mg base W) : FnOk P w K mg base CX0 8 f fd wmPs (spCall W 22) := by
  refine F.ok scAgain (fun vs H Q E h => len_call h) (fun cdv A outer s H vs Q X hr h => ?_)
  obtain ⟨g, c, gv, d, xs, x, rfl, R, hg, C, ok, pf, k⟩ := h
  cases R with
  | c22 =>
  have hr1 : Room 1 _ := hr.mono (by decide)
  refine ⟨_, pss_cons (ps_if (pt_not (pt_truth (pe_fld (pv 0) rfl) (fun _ => rfl))) (pss_one (ps_ret (pe_lst (pa_cons (pe_gi E.none_) pa_nil)))) pss_nil)
    (pss_cons (ps_expr (pe_mth0 E.again E.TK.cl (pv 0) hr1)) (pss_one (ps_ret (pe_lst (pa_cons (pe_callB call_len_seq rfl E.B.len PySem.boot_len (pa_cons (pe_fld (pv 0) rfl) pa_nil)) pa_nil))))), ?_⟩
  obtain ⟨dx, a, le, ll, ap, af, N⟩ := C
  have C : Crs W g H c d := ⟨_, _, _, _, _, _, N⟩
  refine ⟨_, rfl, c, W.K, dx, _, _, rfl, N.at_, E.TK.cl, E.TK.later, cf_later, _, .inl ⟨_, SqL.of N.la, rfl⟩, ?_⟩
  cases af with
  | nil =>
    refine iteT ⟨(by show 1 ≤ sizeLine; decide), fun r hr => ?_⟩
    have ep : d.future = [] := N.fut
    have ea : Km444.act d .again = (d, ⟨-2, []⟩) := by show (match d.future with | [] => _ | k :: r => _) = _; rw [ep]; rfl
    exact k.fin ea Stp.refl C hr rfl
  | cons x r =>
    have e1 : ((!(((x :: r).reverse.map V.ref).isEmpty)) : Bool) = true := by rw [List.reverse_cons, List.map_append]; cases r.reverse.map V.ref <;> rfl
    rw [e1]
    refine iteF ?_
    have pf' : ap.length + 1 ≤ 20 := by
      unfold PF at pf
      rw [N.past, N.fut, List.length_map, List.length_map, List.length_cons] at pf
      omega
    have ea : Km444.act d .again = (⟨g.S x, (a :: ap).map g.S, r.map g.S⟩, ⟨(r.length : Nat), []⟩) := by
      show (match d.future with | [] => _ | k :: r => _) = _
      rw [N.fut]
      show (({ now := g.S x, past := (d.now :: d.past).take Km444.PAST, future := r.map g.S } : Desk), Km444.only (((r.map g.S).length : Nat) : Int)) = _
      rw [N.now, N.past, List.length_map, List.take_of_length_le (by rw [List.length_cons, List.length_map]; exact pf')]
      rfl
    refine ⟨_, rfl, c, dx, _, rfl, N.at_, cf_again, g, c, d, dx, a, le, ll, x, ap, r, rfl, N, (by omega), fun H1 C1 S1 => ?_⟩
    obtain ⟨dx2, a2, le2, ll2, ap2, af2, N2⟩ := C1
    have el : af2.length = r.length := by
      have := congrArg List.length N2.fut
      rw [List.length_map, List.length_map] at this
      exact this.symm
    refine ⟨_, rfl, c, W.K, dx2, _, _, rfl, N2.at_, E.TK.cl, E.TK.later, cf_later, ll2, _, rfl, .inl (SqL.of N2.la), (by show 1 ≤ sizeLine; decide), fun q hq => ?_⟩
    refine k.fin ea S1 ⟨_, _, _, _, _, _, N2⟩ hq ?_
    rw [List.length_map, List.length_reverse, el]
    rfl

theorem scState : FnScope ["course", "given", "sea"] wmPs (defScope sState) := ⟨rfl, rfl, rfl, by decide +kernel, rfl, by decide +kernel, by decide +kernel⟩
theorem ok_state {f : Addr} {fd : FuncData} (F : Fun K "wm_state" "wm_state" sState f fd) (E : En P w K mg base W) : FnOk P w K mg base CX0 8 f fd wmPs (spCall W 23) := by
  refine F.ok scState (fun vs H Q E h => len_call h) (fun cdv A outer s H vs Q X hr h => ?_)
  obtain ⟨g, c, gv, d, xs, x, rfl, R, hg, C, ok, pf, k⟩ := h
  cases R with
  | c23 =>
  refine ⟨_, pss_cons (ps_set (i := 2) scState.nd rfl (Or.inl rfl) (pe_fld (pv 0) rfl))
    (pss_one (ps_ret (pe_lst (pa_cons (pe_fld (pv 2) rfl) (pa_cons (pe_callB call_len_seq rfl E.B.len PySem.boot_len (pa_cons (pe_fld (pv 2) rfl) pa_nil)) (pa_cons (pe_callB call_len_seq rfl E.B.len PySem.boot_len (pa_cons (pe_fld (pv 2) rfl) pa_nil)) (pa_cons (pe_fld (pv 2) rfl) (pa_cons (pe_callB call_len_seq rfl E.B.len PySem.boot_len (pa_cons (pe_fld (pv 0) rfl) pa_nil)) (pa_cons (pe_callB call_len_seq rfl E.B.len PySem.boot_len (pa_cons (pe_fld (pv 0) rfl) pa_nil)) pa_nil))))))))), ?_⟩
  obtain ⟨dx, a, le, ll, ap, af, dxs, lb, lL, cu, wi, p, N⟩ := now_of C
  obtain ⟨nb, asb, eb, hBb⟩ := N.se.bx
  obtain ⟨nl, asl, el, hBl⟩ := N.se.ld
  refine ⟨_, rfl, c, W.K, dx, _, _, rfl, N.cr.at_, E.TK.cl, E.TK.sea, cf_sea, _, rfl, a, W.S, dxs, _, _, rfl, N.se.at_, E.TS.cl, E.TS.hour, sf_hour, _, rfl, a, W.S, dxs, _, _, rfl, N.se.at_, E.TS.cl, E.TS.boxes, sf_boxes, lb, _, rfl, .inl (SqL.of eb), _, rfl, a, W.S, dxs, _, _, rfl, N.se.at_, E.TS.cl, E.TS.lands, sf_lands, lL, _, rfl, .inl (SqL.of el), _, rfl, a, W.S, dxs, _, _, rfl, N.se.at_, E.TS.cl, E.TS.seen, sf_seen,
    _, rfl, c, W.K, dx, _, _, rfl, N.cr.at_, E.TK.cl, E.TK.earlier, cf_earlier, le, _, rfl, .inl (SqL.of N.cr.er), _, rfl, c, W.K, dx, _, _, rfl, N.cr.at_, E.TK.cl, E.TK.later, cf_later, ll, _, rfl, .inl (SqL.of N.cr.la), (by show 6 ≤ sizeLine; decide), fun r hr => ?_⟩
  have ea : Km444.act d .state = (d, ⟨(d.now.hour : Nat), [d.now.boxes.length, d.now.lands.length, d.now.seen, d.past.length, d.future.length]⟩) := rfl
  refine k.fin ea Stp.refl C hr ?_
  rw [N.cr.past, N.cr.fut]
  simp only [List.length_map, List.length_reverse, hBb.len, hBl.len]
  rfl
end
end Db
end
section
/-! drift.py: answers. -/
set_option Elab.async false
set_option linter.all false
set_option maxRecDepth 100000
namespace Db
open PySem PySem.Spec PyProof.Rows L2
open Km444 (Box Sea Desk)
abbrev sAnswers : Stmt := top 71
structure CrsMk (P : Program) (w : World) (K : PySem.W.Frag) (mg : Str → Option Value) (base : Heap) (W : Cl) : Prop where
  ex : ∃ (f : Addr) (fd : FuncData), Mk K W.K f ∧ FnOk P w K mg base CX0 6 f fd ["self"] (spCInit W) ∧ Binds K fd ["self"] []
  mg : mg "Course" = some (.ref W.K)
def CallOk (P : Program) (w : World) (K : PySem.W.Frag) (mg : Str → Option Value) (base : Heap) (W : Cl) (j : Nat) (f : Addr) : Prop := ∃ fd, FnOk P w K mg base CX0 8 f fd wmPs (spCall W j) ∧ PySem.W.keepIn K (.ref f) = true ∧ Binds K fd wmPs []
/-- the table of the calls -/
structure Tab (P : Program) (w : World) (K : PySem.W.Frag) (mg : Str → Option Value) (base : Heap) (W : Cl) (pT : Addr) (ts : List Addr) : Prop where
  nm : mg "CALLS" = some (.ref pT)
  at_ : ∀ H, SqT K H pT (ts.map V.ref)
  of : ∀ (j n : Nat), argN[j]? = some n → ∃ t f, ts[j]? = some t ∧ (∀ H, SqT K H t [.int n, .ref f]) ∧ CallOk P w K mg base W j f
def spAns (K : PySem.W.Frag) : Sp := fun vs H Q _ => ∃ a ns, vs = [.ref a] ∧ OnlyF H ∧ SqL K H a (ns.map V.int) ∧ PyKm444.answers_asked ns = true ∧ ∀ (H' : Hp) (p : Addr), H' p = some (.lst ((PyKm444.answers ns).map V.int)) → Q (.ref p) H'

theorem cut_mid (xs : List V) (i k : Nat) (h1 : i ≤ k) (h2 : k ≤ xs.length) : cutV xs (some (i : Int)) (some (k : Int)) = (xs.drop i).take (k - i) := by
  unfold cutV
  rw [HT.sIx_nat, HT.sIx_nat, Nat.min_eq_left h2, Nat.min_eq_left (by omega)]
theorem flat_eq {l : List Int} {cs : List (List (List Int))} (h : PyFlat.calls PyKm444.shape l.length l = some cs) : PyKm444.calls l = some cs := by
  unfold PyKm444.calls
  rw [h]
  show some (cs.map PyKm444.whole) = some cs
  rw [whole_all h]
theorem told_cons (x : List Int) (xs : List (List Int)) : PyFlat.told (x :: xs) = ((x.length : Int) :: x) ++ PyFlat.told xs := rfl

section
variable {W : Cl} {g : Gh} {H H2 : Hp} {c q dx a le ll : Addr} {d : Desk} {ap af : List Addr}
theorem CrsP.tagNew (h : CrsP W g H c d dx a le ll ap af) (sm : Same H H2) (nq : H q = none) {xs : List V} (eq : H2 q = some (.lst xs)) (t : Addr × Nat) : CrsP W (g.tag q t) H2 c d dx a le ll ap af := by
  have ag : Ag g (g.tag q t) H := fun b o e => ⟨Gh.tag_ne (ne_of_none e nq), rfl⟩
  have T2 : Tg W (g.tag q t) H2 := (h.tg.same sm).tag (.inl ⟨_, eq⟩)
  have tr : ∀ x, SeaAt W g H x (g.S x) → SeaAt W (g.tag q t) H2 x (g.S x) := fun x hx => (hx.ghost ag).same sm
  exact ⟨T2, sm _ _ h.at_, by rw [(ag _ _ h.at_).1]; exact h.tc, by rw [(ag _ _ h.er).1]; exact h.te, by rw [(ag _ _ h.la).1]; exact h.tl, sm _ _ h.er, sm _ _ h.la, h.now, h.past, h.fut, tr _ h.sa, fun x hx => tr x (h.sp x hx), fun x hx => tr x (h.sl x hx)⟩
theorem CrsP.updQ (h : CrsP W g H c d dx a le ll ap af) (tq : g.O q = some (c, 4)) {xs ys : List V} (eq : H q = some (.lst xs)) : CrsP W g (upd H q (.lst ys)) c d dx a le ll ap af := by
  have k : Kpt (fun t => t.2 = 4) g H (upd H q (.lst ys)) := fun b o e n => by
    rw [upd_ne (fun z => by subst z; exact n _ tq rfl)]
    exact e
  have ne : ∀ b n, g.O b = some (c, n) → n ≠ 4 → b ≠ q := fun b n e h z => by
    subst z
    rw [e] at tq
    injection tq with tq
    injection tq with _ tq
    exact h tq
  exact ⟨h.tg.lst eq, by rw [upd_ne (ne _ _ h.tc (by decide))]; exact h.at_, h.tc, h.te, h.tl, by rw [upd_ne (ne _ _ h.te (by decide))]; exact h.er, by rw [upd_ne (ne _ _ h.tl (by decide))]; exact h.la, h.now, h.past, h.fut,
    h.sa.keep h.tg k (fun z => by cases z), fun x hx => (h.sp x hx).keep h.tg k (fun z => by cases z), fun x hx => (h.sl x hx).keep h.tg k (fun z => by cases z)⟩
end

/-- between two calls -/
structure Lp (W : Cl) (H : Hp) (a : Addr) (ns : List Int) (m : Nat) (σ : L2.St) (Hx : Hp) : Prop where
  ex : ∃ (c q : Addr) (pl : Nat) (v4 v5 v6 v7 : Option V) (g : Gh) (d : Desk) (st : Km444Neutral.S) (cs : List (List (List Int))) (f : Nat) (dn : List Int),
    σ = [some (.ref a), some (.ref c), some (.ref q), some (.int pl), v4, v5, v6, v7] ∧ Same H Hx ∧ Crs W g Hx c d ∧ g.O q = some (c, 4) ∧ Hx q = some (.lst (dn.map V.int)) ∧ DeskOk d ∧ PF d ∧ Rs st d ∧ pl ≤ ns.length ∧
    PyFlat.calls PyKm444.shape f (ns.drop pl) = some cs ∧ (∀ c ∈ cs, Km444Neutral.asked1 c = true) ∧ Km444Neutral.may st cs = true ∧ dn ++ PyFlat.told (PyFlat.played Km444Neutral.step st cs) = PyKm444.answers ns ∧ dn.length + 10 * cs.length ≤ 10000 ∧ m = cs.length

section
variable {P : Program} {w : World} {K : PySem.W.Frag} {mg : Str → Option Value} {base : Heap} {W : Cl}
abbrev ansN : List Str := ["calls", "course", "answered", "place", "call", "behind", "answer", "numbers"]
theorem scAnswers : FnScope ansN ["calls"] (defScope sAnswers) := ⟨rfl, rfl, rfl, by decide +kernel, rfl, by decide +kernel, by decide +kernel⟩
theorem only_keep {g g' : Gh} {H Hx H' : Hp} (O : OnlyF H) (s : Same H Hx) (T : Tg W g Hx) (st : Stp g g' Hx H') : Same H H' := fun b u e => by
  rcases O b with n | ⟨o, u', e'⟩
  · rw [n] at e; cases e
  · have : u = .frz o u' := by rw [e'] at e; exact (Option.some.inj e).symm
    subst this
    exact st.free (s _ _ e) (T.none_of (s _ _ e) (fun xs z => by cases z) (fun dx fs z => by cases z))
set_option maxHeartbeats 1000000 in
theorem ok_answers {f : Addr} {fd : FuncData} {pT : Addr} {ts : List Addr} (F : Fun K "answers" "answers" sAnswers f fd) (B : Blt mg) (M : CrsMk P w K mg base W) (Tb : Tab P w K mg base W pT ts) : FnOk P w K mg base CX0 9 f fd ["calls"] (spAns K) := by
  obtain ⟨fI, fdI, MI, FI, bI⟩ := M.ex
  refine F.ok scAnswers (fun vs H Q E h => ?_) (fun cdv A outer s H vs Q X hr h => ?_)
  · obtain ⟨a, ns, rfl, _⟩ := h
    rfl
  obtain ⟨a, ns, rfl, O, hS, hask, k⟩ := h
  have hr7 : Room (6 + 1) _ := hr.mono (by decide)
  refine ⟨_, pss_cons (ps_set (i := 1) scAnswers.nd rfl (Or.inl rfl) (pe_make0 MI FI hr7 rfl M.mg bI .nil pass0))
    (pss_cons (ps_set (i := 2) scAnswers.nd rfl (Or.inl rfl) (pe_lst pa_nil))
    (pss_cons (ps_set (i := 3) scAnswers.nd rfl (Or.inl rfl) pe_int)
    (pss_cons (ps_while PassesOwn.never (pt_cmpR op_lt (pv 3) (pe_callB call_len_seq rfl B.len PySem.boot_len (pa_cons (pv 0) pa_nil)) (nomark _))
      (pss_cons (ps_set (i := 4) scAnswers.nd rfl (Or.inl rfl) (pe_ix ix_tup (pe_glob (v := .ref pT) rfl Tb.nm rfl) (pe_ix ix_list (pv 0) (pv 3) (fun _ _ => rfl)) (fun _ _ => rfl)))
      (pss_cons (ps_set (i := 5) scAnswers.nd rfl (Or.inl rfl) (pe_op op_add (pe_op op_add (pv 3) pe_int) (pe_ix ix_tup (pv 4) pe_int (fun _ _ => rfl))))
      (pss_cons (ps_set (i := 6) scAnswers.nd rfl (Or.inl rfl) (pe_ix ix_tup (pv 4) pe_int (fun _ _ => rfl)))
      (pss_cons (ps_set (i := 7) scAnswers.nd rfl (Or.inl rfl) (pe_callv (k := 8) (i := 6) (S := fun f sp => ∃ j, sp = spCall W j ∧ CallOk P w K mg base W j f) (pv 6) hr (fun f sp ⟨j, e, fd, h1, h2, h3⟩ => ⟨fd, wmPs, by rw [e]; exact h1, h2, h3⟩)
        (pa_cons (pv 1) (pa_cons (pe_slice sl_list (pv 0) (po_some (pe_op op_add (pv 3) pe_int)) (po_some (pv 5))) pa_nil))))
      (pss_cons (ps_expr (pe_bm PySem.F.plainAttrs_list PySem.F.slot_list_append PySem.F.type_list_append mt_append (pv 2) (pa_cons (pe_callB call_len_seq rfl B.len PySem.boot_len (pa_cons (pv 7) pa_nil)) pa_nil)))
      (pss_cons (ps_expr (pe_bm PySem.F.plainAttrs_list PySem.F.slot_list_extend PySem.F.type_list_extend mt_extend (pv 2) (pa_cons (pv 7) pa_nil)))
      (pss_one (ps_set (i := 3) scAnswers.nd rfl (Or.inl rfl) (pv 5))))))))))
    (pss_one (ps_ret (pv 2)))))), ?_⟩
  intro c dxc nc ndc hne
  refine ⟨⟨fun _ => none, fun _ => Km444.opened Km444.zero 0 0⟩, c, dxc, rfl, (fun b t e => by cases e), upd_same, fun g1 H1 C1 O1 => ⟨rfl, ?_⟩⟩
  have s1 : Same H H1 := fun b u e => (O1 b u (by rw [upd_ne (ne_of_none e nc), upd_ne (ne_of_none e ndc)]; exact e) (ne_of_none e nc)).2
  refine ⟨Nat.zero_le _, fun q hq => ?_⟩
  have s2 : Same H1 (upd H1 q (.lst [])) := same_new hq
  obtain ⟨dx1, a1, le1, ll1, ap1, af1, P1⟩ := C1
  have P2 := P1.tagNew s2 hq (xs := []) upd_same (c, 4)
  -- what is asked
  have hx : ∃ raw, PyFlat.calls PyKm444.shape ns.length ns = some raw ∧ raw.length ≤ 1000 ∧ (∀ c ∈ raw, Km444Neutral.asked1 c = true) ∧ Km444Neutral.may Km444Neutral.start raw = true ∧ PyKm444.answers ns = PyFlat.told (PyFlat.played Km444Neutral.step Km444Neutral.start raw) := by
    unfold PyKm444.answers_asked at hask
    cases e : PyFlat.calls PyKm444.shape ns.length ns with
    | none => rw [e] at hask; cases hask
    | some raw =>
      rw [e] at hask
      simp only [Bool.and_eq_true] at hask
      have ew : raw.map PyKm444.whole = raw := whole_all e
      obtain ⟨⟨⟨⟨_, h2⟩, _⟩, h4⟩, _⟩ := hask
      rw [ew] at h4
      unfold Km444Neutral.asked at h4
      simp only [Bool.and_eq_true] at h4
      refine ⟨raw, rfl, of_decide_eq_true h4.2.1, fun c hc => List.all_eq_true.mp h4.2.2.1 c hc, h4.2.2.2, ?_⟩
      unfold PyKm444.answers
      rw [flat_eq e]
  obtain ⟨raw, hraw, hlen, hall, hmay, hans⟩ := hx
  refine ⟨fun m σ Hx => Lp W H a ns m σ Hx, ⟨raw.length, ⟨c, q, 0, none, none, none, none, _, desk0, none, raw, ns.length, [], rfl, s1.trans s2, ⟨_, _, _, _, _, _, P2⟩, Gh.tag_at, upd_same, desk0_ok, (by show 0 + 0 ≤ 20; decide), .inr ⟨rfl, rfl⟩, Nat.zero_le _, (by rw [List.drop_zero]; exact hraw), hall, hmay, (by rw [hans]; rfl), (by rw [List.length_nil]; omega), rfl⟩⟩, ?_⟩
  clear P2 P1 O1 s1 s2 hq nc ndc hne hlen hmay hans hall hraw
  rintro m σ Hx ⟨c, q, pl, v4, v5, v6, v7, g, d, st, cs, fu, dn, rfl, sH, Cx, tq, eq, ok, pf, rs, ple, hcs, hall, hmay, hans, hlen, rfl⟩
  have hSx := Same.seq sH hS
  refine ⟨_, rfl, _, rfl, a, _, rfl, .inl hSx, _, _, rfl, rfl, _, rfl, ?_⟩
  refine ite2 (fun h => ⟨fun σ' H' => ∃ m', m' < cs.length ∧ Lp W H a ns m' σ' H', fun _ _ h => h, ?_⟩) (fun h => ?_)
  · have hpl : pl < ns.length := by
      have := of_decide_eq_true h
      rw [List.length_map] at this
      omega
    have ed : ns.drop pl = ns[pl] :: ns.drop (pl + 1) := List.drop_eq_getElem_cons hpl
    rw [ed] at hcs
    obtain ⟨n, f', cs', _, hn, hsh, ecs, hcs'⟩ := calls_step hcs
    subst ecs
    have lenr : (ns.drop (pl + 1)).length = ns.length - (pl + 1) := List.length_drop
    have tlen : ((ns.drop (pl + 1)).take n).length = n := by rw [List.length_take]; omega
    obtain ⟨j, x, ej, R, hco⟩ := rl_of (xs := (ns.drop (pl + 1)).take n) (by rw [tlen]; exact hsh) (hall _ List.mem_cons_self)
    have hj := R.len
    rw [tlen] at hj
    obtain ⟨t, fj, ht, hT, hF⟩ := Tb.of j n hj
    have gpl : (ns.map V.int)[pl]? = some (.int (j : Int)) := by rw [List.getElem?_map, List.getElem?_eq_getElem hpl, Option.map_some, ej]
    refine ⟨_, rfl, _, rfl, a, _, _, _, rfl, rfl, hSx, at_of (j := pl) rfl gpl, pT, _, _, .ref t, rfl, rfl, Tb.at_ _, at_of (j := j) rfl (by rw [List.getElem?_map, ht]; rfl), ?_⟩
    refine ⟨_, rfl, _, _, rfl, rfl, _, rfl, t, _, _, _, rfl, rfl, hT _, at_of (j := 0) rfl rfl, _, _, rfl, rfl, ?_⟩
    refine ⟨_, rfl, t, _, _, _, rfl, rfl, hT _, at_of (j := 1) rfl rfl, ?_⟩
    refine ⟨fj, spCall W j, rfl, ⟨j, rfl, hF⟩, _, rfl, _, rfl, _, rfl, _, _, rfl, rfl, _, rfl, _, rfl, _, rfl, a, _, rfl, hSx, fun gv hgv => ?_⟩
    have ec : cutV (ns.map V.int) (some ((pl : Int) + 1)) (some ((pl : Int) + 1 + (n : Int))) = ((ns.drop (pl + 1)).take n).map V.int := by
      have e1 : ((pl : Int) + 1) = ((pl + 1 : Nat) : Int) := by omega
      have e2 : ((pl : Int) + 1 + (n : Int)) = ((pl + 1 + n : Nat) : Int) := by omega
      rw [e2, e1, cut_mid _ _ _ (by omega) (by rw [List.length_map]; omega), ← List.map_drop, ← List.map_take]
      congr 2
      omega
    rw [ec]
    have s3 : Same Hx (upd Hx gv (.lst (((ns.drop (pl + 1)).take n).map V.int))) := same_new hgv
    have C3 := Cx.same s3
    refine ⟨g, c, gv, d, _, x, rfl, R, upd_same, C3, ok, pf, fun g4 H4 r S4 C4 nr er => ?_⟩
    have S34 : Stp g g4 Hx H4 := (Stp.same s3).trans S4
    have sH4 := only_keep O sH Cx.tg S34
    have eq4 : H4 q = some (.lst (dn.map V.int)) := S34.k q _ eq fun t ht => by rw [tq] at ht; rw [← Option.some.inj ht]
    have tq4 : g4.O q = some (c, 4) := by rw [S34.o q _ eq]; exact tq
    have nrq : r ≠ q := fun z => by
      subst z
      rw [s3 _ _ eq] at nr
      cases nr
    have nst : (Km444Neutral.step st [ns[pl] :: (ns.drop (pl + 1)).take n]).2.isEmpty = false ∧ Km444Neutral.may (Km444Neutral.step st [ns[pl] :: (ns.drop (pl + 1)).take n]).1 cs' = true := by
      have := hmay
      unfold Km444Neutral.may at this
      simpa using this
    obtain ⟨eo, rs'⟩ := step_of rs hco nst.1
    have hlen9 := told_len d x
    have hans' : dn ++ (((Km444Neutral.told (Km444.act d x).2).length : Int) :: Km444Neutral.told (Km444.act d x).2) ++ PyFlat.told (PyFlat.played Km444Neutral.step (Km444Neutral.step st [ns[pl] :: (ns.drop (pl + 1)).take n]).1 cs') = PyKm444.answers ns := by
      rw [← hans, ← eo, List.append_assoc]
      rfl
    generalize Km444Neutral.told (Km444.act d x).2 = an at *
    rw [List.length_cons] at hlen
    refine ⟨_, rfl, .inl ⟨rfl, _, SqL.of eq4⟩, _, rfl, r, _, rfl, .inl (SqL.of er), q, _, _, rfl, rfl, eq4, (by rw [List.length_map, sizeLine_eq]; omega), ?_⟩
    obtain ⟨dx4, a4, le4, ll4, ap4, af4, P4⟩ := C4
    have P5 := P4.updQ tq4 eq4 (ys := dn.map V.int ++ [.int ((an.map V.int).length : Nat)])
    have sH5 : Same H (upd H4 q (.lst (dn.map V.int ++ [.int ((an.map V.int).length : Nat)]))) := fun b u e => by
      rw [upd_ne (fun z => ?_)]
      · exact sH4 b u e
      · subst z
        rcases O b with n | ⟨o, u', e'⟩
        · rw [n] at e; cases e
        · rw [sH4 _ _ e'] at eq4; cases eq4
    have er5 : (upd H4 q (.lst (dn.map V.int ++ [.int ((an.map V.int).length : Nat)]))) r = some (.lst (an.map V.int)) := by rw [upd_ne nrq]; exact er
    have eq5 : (upd H4 q (.lst (dn.map V.int ++ [.int ((an.map V.int).length : Nat)]))) q = some (.lst (dn.map V.int ++ [.int ((an.map V.int).length : Nat)])) := upd_same
    generalize upd H4 q (.lst (dn.map V.int ++ [.int ((an.map V.int).length : Nat)])) = H5 at *
    refine ⟨_, rfl, .inl ⟨rfl, _, SqL.of eq5⟩, _, rfl, q, r, _, _, rfl, rfl, eq5, er5, (by rw [List.length_append, List.length_map, List.length_map, List.length_singleton, sizeLine_eq]; omega), ?_⟩
    have P6 := P5.updQ tq4 eq5 (ys := dn.map V.int ++ [.int ((an.map V.int).length : Nat)] ++ an.map V.int)
    have sH6 : Same H (upd H5 q (.lst (dn.map V.int ++ [.int ((an.map V.int).length : Nat)] ++ an.map V.int))) := fun b u e => by
      rw [upd_ne (fun z => ?_)]
      · exact sH5 b u e
      · subst z
        rcases O b with n | ⟨o, u', e'⟩
        · rw [n] at e; cases e
        · rw [sH5 _ _ e'] at eq5; cases eq5
    refine ⟨_, rfl, cs'.length, by rw [List.length_cons]; omega, ⟨c, q, pl + 1 + n, some (.ref t), some (.int ((pl : Int) + 1 + (n : Int))), some (.ref fj), some (.ref r), g4, _, _, cs', f', dn ++ ((an.length : Int) :: an), ?_, sH6, ⟨_, _, _, _, _, _, P6⟩, tq4, ?_, act_ok ok x, act_pf pf x, rs', by omega, ?_, fun c hc => hall c (List.mem_cons_of_mem _ hc), nst.2, hans', ?_, rfl⟩⟩
    · have e2 : ((pl + 1 + n : Nat) : Int) = ((pl : Int) + 1 + (n : Int)) := by omega
      rw [e2]
      rfl
    · rw [upd_same, List.length_map, List.map_append, List.append_assoc]
      rfl
    · rw [← List.drop_drop]
      exact hcs'
    · rw [List.length_append, List.length_cons]
      omega
  · have hpl : pl = ns.length := by
      have : ¬ (pl : Int) < (((ns.map V.int).length : Nat) : Int) := fun z => h (decide_eq_true z)
      rw [List.length_map] at this
      omega
    have e0 : cs = [] := by
      rw [hpl, List.drop_length] at hcs
      exact calls_nil hcs
    subst e0
    refine ⟨_, rfl, k Hx q ?_⟩
    rw [← hans, eq]
    show some (HO.lst (dn.map V.int)) = some (HO.lst ((dn ++ []).map V.int))
    rw [List.append_nil]
end
end Db
end
section
set_option Elab.async false
set_option linter.all false
set_option maxRecDepth 100000
namespace Db
open PySem PySem.Spec PyProof.Rows L2
open Km444 (Box Sea Desk)
/-- where a method stands -/
structure MAt (K : PySem.W.Frag) (C : Addr) (m qual : Str) (st : Stmt) (f : Addr) (fd : FuncData) : Prop where
  fn : Fun K m qual st f fd
  mt : Meth K C m f
theorem meth_of {K : PySem.W.Frag} {C : Addr} {m qual : Str} {st : Stmt} {f : Addr} {oc : Value} {od an : Option Addr} {osl : Array (Option Value)} {kV doc pm cdv ct : Value} (a : PySem.W.findIn K (.ref C) m = some (some (.ref f))) (i : PySem.W.isFn K (.ref f) = true)
    (l : K.lookup f = some ⟨oc, od, .func (PySem.W.fnOf m qual (defArgs st) (defBody st) (defScope st) .none kV doc pm an cdv ct), osl⟩) (c : PySem.W.codeIn K cdv qual = true) (k : PySem.W.keepIn K (.ref f) = true) : ∃ fd, MAt K C m qual st f fd := ⟨_, fun_mk l c k, a, i, k⟩
theorem MAt.mth {P : Program} {w : World} {K : PySem.W.Frag} {mg : Str → Option Value} {base : Heap} {C : Addr} {k : Nat} {m qual : Str} {st : Stmt} {f : Addr} {fd : FuncData} {ps : List Str} {sp : Sp} (A : MAt K C m qual st f fd) (ok : FnOk P w K mg base CX0 k f fd ps sp)
    (h : ∀ (kV doc pm : Value) (an : Option Addr) (cdv ct : Value) (us : List Value), us.length = ps.length → bindArgs (PySem.W.fnOf m qual (defArgs st) (defBody st) (defScope st) .none kV doc pm an cdv ct) ⟨us, []⟩ = pure (ps.zip us)) : Mth P w K mg base C k m ps sp := ⟨f, fd, A.mt, ok, A.fn.binds h⟩
/-- where an __init__ stands -/
structure IAt (K : PySem.W.Frag) (mg : Str → Option Value) (C : Addr) (x qual : Str) (st : Stmt) (f : Addr) (fd : FuncData) : Prop where
  fn : Fun K "__init__" qual st f fd
  mks : Mk K C f
  nm : mg x = some (.ref C)
  cl : Cls K C
theorem init_of {K : PySem.W.Frag} {h : Heap} {mg : Str → Option Value} (X : K.In h) (G : h.Ns mainGlobals mg) {C : Addr} {x qual : Str} {st : Stmt} {f : Addr} {oc : Value} {od an : Option Addr} {osl : Array (Option Value)} {kV doc pm cdv ct : Value}
    (n : PySem.W.nsIn K mainGlobals x = some (some (.ref C))) (a : PySem.W.findIn K (.ref C) "__init__" = some (some (.ref f))) (i : PySem.W.isFn K (.ref f) = true)
    (l : K.lookup f = some ⟨oc, od, .func (PySem.W.fnOf "__init__" qual (defArgs st) (defBody st) (defScope st) .none kV doc pm an cdv ct), osl⟩) (c : PySem.W.codeIn K cdv qual = true) (k : PySem.W.keepIn K (.ref f) = true)
    (mk : PySem.W.makesIn K C = true) (kc : PySem.W.keepIn K (.ref C) = true) (pg : PySem.W.plainGet K C Str.empty = true) (hd : PySem.W.hasDictIn K C = true) (po : PySem.W.plainOver K C = true) (sa : PySem.W.findIn K (.ref C) "__setattr__" = some (some (.builtin "object.__setattr__"))) :
    ∃ fd, IAt K mg C x qual st f fd := ⟨_, fun_mk l c k, ⟨mk, a, i, kc⟩, PySem.W.mg_of X G n, ⟨pg, hd, po, sa⟩⟩
theorem int_of {K : PySem.W.Frag} {h : Heap} {mg : Str → Option Value} (X : K.In h) (G : h.Ns mainGlobals mg) {x : Str} {i : Int} {t : Tok} (a : PySem.W.nsIn K mainGlobals x = some (some (.int i t))) : ∃ t, mg x = some (.int i t) := ⟨t, PySem.W.mg_of X G a⟩
/-- a pair of the table -/
def PairAt (K : PySem.W.Frag) (t : Addr) (n : Nat) (f : Addr) : Prop := ∀ H, SqT K H t [.int n, .ref f]
theorem pair_of {K : PySem.W.Frag} {t f : Addr} {n : Nat} {tk : Tok} {dd : Option Addr} {m : Nat} {sl : Array (Option Value)} (l : K.lookup t = some ⟨.type "tuple", dd, .seq #[.int (n : Int) tk, .ref f] m, sl⟩) : PairAt K t n f :=
  fun H => .inr ⟨_, _, _, l, rfl, rfl, (by show 2 ≤ sizeLine; decide), .cons ⟨tk, rfl⟩ (.cons rfl .nil)⟩
theorem vals_refs : ∀ ts : List Addr, Vals (ts.map V.ref) (ts.map Value.ref)
  | [] => .nil
  | _ :: ts => .cons rfl (vals_refs ts)
theorem table_of {K : PySem.W.Frag} {p : Addr} {ts : List Addr} {dd : Option Addr} {m : Nat} {sl : Array (Option Value)} (hl : ts.length ≤ sizeLine) (l : K.lookup p = some ⟨.type "tuple", dd, .seq (ts.map Value.ref).toArray m, sl⟩) : ∀ H, SqT K H p (ts.map V.ref) :=
  fun H => .inr ⟨_, _, _, l, rfl, rfl, (by rw [List.size_toArray, List.length_map]; exact hl), vals_refs ts⟩
theorem meth_at {K : PySem.W.Frag} {mg : Str → Option Value} {C fi : Addr} {fdi : FuncData} {x qi : Str} {si : Stmt} (I : IAt K mg C x qi si fi fdi) {m qual : Str} {st : Stmt} {f : Addr} {oc : Value} {od an : Option Addr} {osl : Array (Option Value)} {kV doc pm cdv ct : Value} (a : PySem.W.findIn K (.ref C) m = some (some (.ref f))) (i : PySem.W.isFn K (.ref f) = true)
    (l : K.lookup f = some ⟨oc, od, .func (PySem.W.fnOf m qual (defArgs st) (defBody st) (defScope st) .none kV doc pm an cdv ct), osl⟩) (c : PySem.W.codeIn K cdv qual = true) (k : PySem.W.keepIn K (.ref f) = true) : ∃ fd, MAt K C m qual st f fd := ⟨_, fun_mk l c k, a, i, k⟩
theorem table24 {K : PySem.W.Frag} {h : Heap} {mg : Str → Option Value} (X : K.In h) (G : h.Ns mainGlobals mg) {p t_0 t_1 t_2 t_3 t_4 t_5 t_6 t_7 t_8 t_9 t_10 t_11 t_12 t_13 t_14 t_15 t_16 t_17 t_18 t_19 t_20 t_21 t_22 t_23 : Addr} {dd : Option Addr} {m : Nat} {sl : Array (Option Value)} (a : PySem.W.nsIn K mainGlobals "CALLS" = some (some (.ref p))) (l : K.lookup p = some ⟨.type "tuple", dd, .seq #[.ref t_0, .ref t_1, .ref t_2, .ref t_3, .ref t_4, .ref t_5, .ref t_6, .ref t_7, .ref t_8, .ref t_9, .ref t_10, .ref t_11, .ref t_12, .ref t_13, .ref t_14, .ref t_15, .ref t_16, .ref t_17, .ref t_18, .ref t_19, .ref t_20, .ref t_21, .ref t_22, .ref t_23] m, sl⟩) :
    mg "CALLS" = some (.ref p) ∧ ∀ H, SqT K H p ([t_0, t_1, t_2, t_3, t_4, t_5, t_6, t_7, t_8, t_9, t_10, t_11, t_12, t_13, t_14, t_15, t_16, t_17, t_18, t_19, t_20, t_21, t_22, t_23].map V.ref) :=
  ⟨PySem.W.mg_of X G a, fun H => .inr ⟨_, _, _, l, rfl, rfl, (by show 24 ≤ sizeLine; decide), vals_refs [t_0, t_1, t_2, t_3, t_4, t_5, t_6, t_7, t_8, t_9, t_10, t_11, t_12, t_13, t_14, t_15, t_16, t_17, t_18, t_19, t_20, t_21, t_22, t_23]⟩⟩
theorem boxcls_of {K : PySem.W.Frag} {mg : Str → Option Value} {C fi : Addr} {fdi : FuncData} {x qi : Str} {si : Stmt} (I : IAt K mg C x qi si fi fdi) (a1 : PySem.W.findIn K (.ref C) "west" = some none) (a2 : PySem.W.findIn K (.ref C) "east" = some none) (a3 : PySem.W.findIn K (.ref C) "south" = some none) (a4 : PySem.W.findIn K (.ref C) "north" = some none) : BoxCls K C := ⟨I.cl, a1, a2, a3, a4⟩
theorem seacls_of {K : PySem.W.Frag} {mg : Str → Option Value} {C fi : Addr} {fdi : FuncData} {x qi : Str} {si : Stmt} (I : IAt K mg C x qi si fi fdi) (a1 : PySem.W.findIn K (.ref C) "hour" = some none) (a2 : PySem.W.findIn K (.ref C) "boxes" = some none) (a3 : PySem.W.findIn K (.ref C) "lands" = some none) (a4 : PySem.W.findIn K (.ref C) "current" = some none)
    (a5 : PySem.W.findIn K (.ref C) "wind" = some none) (a6 : PySem.W.findIn K (.ref C) "sightings" = some none) (a7 : PySem.W.findIn K (.ref C) "lo" = some none) (a8 : PySem.W.findIn K (.ref C) "hi" = some none) (a9 : PySem.W.findIn K (.ref C) "ahead" = some none) : SeaCls K C := ⟨I.cl, a1, a2, a3, a4, a5, a6, a7, a8, a9⟩
theorem crscls_of {K : PySem.W.Frag} {mg : Str → Option Value} {C fi : Addr} {fdi : FuncData} {x qi : Str} {si : Stmt} (I : IAt K mg C x qi si fi fdi) (a1 : PySem.W.findIn K (.ref C) "sea" = some none) (a2 : PySem.W.findIn K (.ref C) "earlier" = some none) (a3 : PySem.W.findIn K (.ref C) "later" = some none) : CrsCls K C := ⟨I.cl, a1, a2, a3⟩
section
variable {P : Program} {w : World} {K : PySem.W.Frag} {mg : Str → Option Value} {base : Heap} {W : Cl}
set_option maxHeartbeats 4000000 in
theorem all_ok {f_B f_S f_K f_has f_within f_isin f_amount f_overlap f_roundb f_moved f_edges f_told f_less f_without f_narrowed f_inany f_tidy f_rounda f_growth f_pairs f_four f_least f_most f_hours f_eof f_copied f_drift f_after f_begin f_change f_tback f_tagain f_w0 f_w1 f_w2 f_w3 f_w4 f_w5 f_w6 f_w7 f_w8 f_w9 f_w10 f_w11 f_w12 f_w13 f_w14 f_w15 f_w16 f_w17 f_w18 f_w19 f_w20 f_w21 f_w22 f_w23 t_0 t_1 t_2 t_3 t_4 t_5 t_6 t_7 t_8 t_9 t_10 t_11 t_12 t_13 t_14 t_15 t_16 t_17 t_18 t_19 t_20 t_21 t_22 t_23 f_ans pT : Addr} {fd_B fd_S fd_K fd_has fd_within fd_isin fd_amount fd_overlap fd_roundb fd_moved fd_edges fd_told fd_less fd_without fd_narrowed fd_inany fd_tidy fd_rounda fd_growth fd_pairs fd_four fd_least fd_most fd_hours fd_eof fd_copied fd_drift fd_after fd_begin fd_change fd_tback fd_tagain fd_w0 fd_w1 fd_w2 fd_w3 fd_w4 fd_w5 fd_w6 fd_w7 fd_w8 fd_w9 fd_w10 fd_w11 fd_w12 fd_w13 fd_w14 fd_w15 fd_w16 fd_w17 fd_w18 fd_w19 fd_w20 fd_w21 fd_w22 fd_w23 fd_ans : FuncData} (B : Blt mg) (TB : BoxCls K W.B) (TS : SeaCls K W.S) (TK : CrsCls K W.K)
    (I_B : IAt K mg W.B "Box" "Box.__init__" sBoxInit f_B fd_B)
    (I_S : IAt K mg W.S "Sea" "Sea.__init__" sSeaInit f_S fd_S)
    (I_K : IAt K mg W.K "Course" "Course.__init__" sCInit f_K fd_K)
    (A_has : At K mg "has_places" "has_places" sHasPlaces f_has fd_has)
    (A_within : At K mg "is_box_within" "is_box_within" sIsBoxWithin f_within fd_within)
    (A_isin : At K mg "is_in" "is_in" sIsIn f_isin fd_isin)
    (A_amount : At K mg "amount" "amount" sAmount f_amount fd_amount)
    (A_overlap : At K mg "overlap" "overlap" sOverlap f_overlap fd_overlap)
    (A_roundb : At K mg "round_both" "round_both" sRoundBoth f_roundb fd_roundb)
    (A_moved : At K mg "moved" "moved" sMoved f_moved fd_moved)
    (A_edges : At K mg "edges" "edges" sEdges f_edges fd_edges)
    (A_told : At K mg "box_told" "box_told" sBoxTold f_told fd_told)
    (A_less : At K mg "less" "less" sLess f_less fd_less)
    (A_without : At K mg "without" "without" sWithout f_without fd_without)
    (A_narrowed : At K mg "narrowed" "narrowed" sNarrowed f_narrowed fd_narrowed)
    (A_inany : At K mg "is_in_any" "is_in_any" sIsInAny f_inany fd_inany)
    (A_tidy : At K mg "tidy" "tidy" sTidy f_tidy fd_tidy)
    (A_rounda : At K mg "round_all" "round_all" sRoundAll f_rounda fd_rounda)
    (A_growth : At K mg "growth" "growth" sGrowth f_growth fd_growth)
    (A_pairs : At K mg "pairs_with" "pairs_with" sPairsWith f_pairs fd_pairs)
    (A_four : At K mg "at_most_four" "at_most_four" sFour f_four fd_four)
    (A_least : At K mg "least_taken" "least_taken" sLeast f_least fd_least)
    (A_most : At K mg "most_taken" "most_taken" sMost f_most fd_most)
    (A_hours : At K mg "are_hours" "are_hours" sAreHours f_hours fd_hours)
    (A_eof : At K mg "edges_of" "edges_of" sEdgesOf f_eof fd_eof)
    (A_copied : MAt K W.S "copied" "Sea.copied" sCopied f_copied fd_copied)
    (A_drift : MAt K W.S "hour_drift" "Sea.hour_drift" sDrift f_drift fd_drift)
    (A_after : MAt K W.S "boxes_after" "Sea.boxes_after" sAfter f_after fd_after)
    (A_begin : MAt K W.K "begin" "Course.begin" sBegin f_begin fd_begin)
    (A_change : MAt K W.K "change" "Course.change" sChange f_change fd_change)
    (A_tback : MAt K W.K "take_back" "Course.take_back" sTakeBack f_tback fd_tback)
    (A_tagain : MAt K W.K "do_again" "Course.do_again" sDoAgain f_tagain fd_tagain)
    (A_w0 : At K mg "wm_start" "wm_start" sStart f_w0 fd_w0)
    (A_w1 : At K mg "wm_land" "wm_land" sLand f_w1 fd_w1)
    (A_w2 : At K mg "wm_current" "wm_current" sCurrent f_w2 fd_w2)
    (A_w3 : At K mg "wm_wind" "wm_wind" sWind f_w3 fd_w3)
    (A_w4 : At K mg "wm_hours" "wm_hours" sHours f_w4 fd_w4)
    (A_w5 : At K mg "wm_sighted" "wm_sighted" sSighted f_w5 fd_w5)
    (A_w6 : At K mg "wm_searched" "wm_searched" sSearched f_w6 fd_w6)
    (A_w7 : At K mg "wm_other" "wm_other" sOther f_w7 fd_w7)
    (A_w8 : At K mg "wm_box" "wm_box" sWBox f_w8 fd_w8)
    (A_w9 : At K mg "wm_may" "wm_may" sMay f_w9 fd_w9)
    (A_w10 : At K mg "wm_round" "wm_round" sRound f_w10 fd_w10)
    (A_w11 : At K mg "wm_area" "wm_area" sArea f_w11 fd_w11)
    (A_w12 : At K mg "wm_drift" "wm_drift" sWDrift f_w12 fd_w12)
    (A_w13 : At K mg "wm_ahead" "wm_ahead" sAhead f_w13 fd_w13)
    (A_w14 : At K mg "wm_reaches" "wm_reaches" sReaches f_w14 fd_w14)
    (A_w15 : At K mg "wm_best" "wm_best" sBest f_w15 fd_w15)
    (A_w16 : At K mg "wm_centre" "wm_centre" sCentre f_w16 fd_w16)
    (A_w17 : At K mg "wm_widest" "wm_widest" sWidest f_w17 fd_w17)
    (A_w18 : At K mg "wm_lands" "wm_lands" sLands f_w18 fd_w18)
    (A_w19 : At K mg "wm_shore" "wm_shore" sShore f_w19 fd_w19)
    (A_w20 : At K mg "wm_told" "wm_told" sTold f_w20 fd_w20)
    (A_w21 : At K mg "wm_back" "wm_back" sBack f_w21 fd_w21)
    (A_w22 : At K mg "wm_again" "wm_again" sAgain f_w22 fd_w22)
    (A_w23 : At K mg "wm_state" "wm_state" sState f_w23 fd_w23)
    (P_w0 : PairAt K t_0 6 f_w0)
    (P_w1 : PairAt K t_1 4 f_w1)
    (P_w2 : PairAt K t_2 4 f_w2)
    (P_w3 : PairAt K t_3 4 f_w3)
    (P_w4 : PairAt K t_4 1 f_w4)
    (P_w5 : PairAt K t_5 4 f_w5)
    (P_w6 : PairAt K t_6 4 f_w6)
    (P_w7 : PairAt K t_7 4 f_w7)
    (P_w8 : PairAt K t_8 1 f_w8)
    (P_w9 : PairAt K t_9 2 f_w9)
    (P_w10 : PairAt K t_10 0 f_w10)
    (P_w11 : PairAt K t_11 0 f_w11)
    (P_w12 : PairAt K t_12 0 f_w12)
    (P_w13 : PairAt K t_13 1 f_w13)
    (P_w14 : PairAt K t_14 4 f_w14)
    (P_w15 : PairAt K t_15 0 f_w15)
    (P_w16 : PairAt K t_16 0 f_w16)
    (P_w17 : PairAt K t_17 0 f_w17)
    (P_w18 : PairAt K t_18 0 f_w18)
    (P_w19 : PairAt K t_19 1 f_w19)
    (P_w20 : PairAt K t_20 0 f_w20)
    (P_w21 : PairAt K t_21 0 f_w21)
    (P_w22 : PairAt K t_22 0 f_w22)
    (P_w23 : PairAt K t_23 0 f_w23)
    (cB : ∃ t, mg "MOST_BOXES" = some (.int 4 t))
    (cBack : ∃ t, mg "MOST_BACK" = some (.int 20 t))
    (cNone : ∃ t, mg "NONE_SUCH" = some (.int (-2) t))
    (cNa : ∃ t, mg "NOT_ALLOWED" = some (.int (-22) t))
    (cRoom : ∃ t, mg "NO_ROOM" = some (.int (-28) t))
    (cNowhere : ∃ t, mg "NOWHERE" = some (.int (-33) t))
    (cLate : ∃ t, mg "TOO_LATE" = some (.int (-75) t))
    (cFar : ∃ t, mg "FARTHEST_TOLD" = some (.int 1000000 t))
    (cSought : ∃ t, mg "FARTHEST_SOUGHT" = some (.int 3000000 t))
    (cFastC : ∃ t, mg "FASTEST_CURRENT" = some (.int 100 t))
    (cFastW : ∃ t, mg "FASTEST_WIND" = some (.int 1000 t))
    (cShare : ∃ t, mg "MOST_SHARE" = some (.int 20 t))
    (cShores : ∃ t, mg "MOST_LANDS" = some (.int 4 t))
    (cHours : ∃ t, mg "MOST_HOURS" = some (.int 24 t))
    (cAhead : ∃ t, mg "FARTHEST_AHEAD" = some (.int 48 t))
    (cLast : ∃ t, mg "LAST_HOUR" = some (.int 1000 t))
    (hT : mg "CALLS" = some (.ref pT)) (hTab : ∀ H, SqT K H pT ([t_0, t_1, t_2, t_3, t_4, t_5, t_6, t_7, t_8, t_9, t_10, t_11, t_12, t_13, t_14, t_15, t_16, t_17, t_18, t_19, t_20, t_21, t_22, t_23].map V.ref)) (A_ans : At K mg "answers" "answers" sAnswers f_ans fd_ans) :
    FnOk P w K mg base CX0 9 f_ans fd_ans ["calls"] (spAns K) := by
  have MB : BoxMk P w K mg base W.B := ⟨⟨f_B, fd_B, I_B.mks, ok_boxInit I_B.fn TB, I_B.fn.binds (fun _ _ _ _ _ _ us hl => match us, hl with | [_, _, _, _, _], _ => rfl)⟩, I_B.nm⟩
  have D_has : Df P w K mg base 1 "has_places" ["box"] (spHasPlaces W.B) := A_has.df (ok_hasPlaces A_has.fn TB) (fun _ _ _ _ _ _ us hl => match us, hl with | [_], _ => rfl)
  have D_within : Df P w K mg base 2 "is_box_within" ["box", "limit"] (spIsBoxWithin W.B) := A_within.df (ok_isBoxWithin A_within.fn TB D_has) (fun _ _ _ _ _ _ us hl => match us, hl with | [_, _], _ => rfl)
  have D_isin : Df P w K mg base 1 "is_in" ["inner", "outer"] (spIsIn W.B) := A_isin.df (ok_isIn A_isin.fn TB) (fun _ _ _ _ _ _ us hl => match us, hl with | [_, _], _ => rfl)
  have D_amount : Df P w K mg base 1 "amount" ["box"] (spAmount W.B) := A_amount.df (ok_amount A_amount.fn TB) (fun _ _ _ _ _ _ us hl => match us, hl with | [_], _ => rfl)
  have D_overlap : Df P w K mg base 3 "overlap" ["one", "other"] (spTwo W.B Box.meet) := A_overlap.df (ok_overlap A_overlap.fn TB MB B) (fun _ _ _ _ _ _ us hl => match us, hl with | [_, _], _ => rfl)
  have D_roundb : Df P w K mg base 3 "round_both" ["one", "other"] (spTwo W.B Box.join) := A_roundb.df (ok_roundBoth A_roundb.fn TB MB B) (fun _ _ _ _ _ _ us hl => match us, hl with | [_, _], _ => rfl)
  have D_moved : Df P w K mg base 3 "moved" ["box", "drift"] (spTwo W.B Box.plus) := A_moved.df (ok_moved A_moved.fn TB MB) (fun _ _ _ _ _ _ us hl => match us, hl with | [_, _], _ => rfl)
  have D_edges : Df P w K mg base 1 "edges" ["box"] (spEdges W.B) := A_edges.df (ok_edges A_edges.fn TB) (fun _ _ _ _ _ _ us hl => match us, hl with | [_], _ => rfl)
  have D_told : Df P w K mg base 3 "box_told" ["given"] (spBoxTold K W.B) := A_told.df (ok_boxTold A_told.fn MB) (fun _ _ _ _ _ _ us hl => match us, hl with | [_], _ => rfl)
  have D_less : Df P w K mg base 4 "less" ["box", "taken"] (spLess W.B) := A_less.df (ok_less A_less.fn TB MB D_has D_overlap) (fun _ _ _ _ _ _ us hl => match us, hl with | [_, _], _ => rfl)
  have D_without : Df P w K mg base 5 "without" ["boxes", "takens"] (spWithout W.B) := A_without.df (ok_without A_without.fn D_less) (fun _ _ _ _ _ _ us hl => match us, hl with | [_, _], _ => rfl)
  have D_narrowed : Df P w K mg base 4 "narrowed" ["boxes", "sighting"] (spNarrowed W.B) := A_narrowed.df (ok_narrowed A_narrowed.fn D_has D_overlap) (fun _ _ _ _ _ _ us hl => match us, hl with | [_, _], _ => rfl)
  have D_inany : Df P w K mg base 2 "is_in_any" ["box", "others"] (spIsInAny W.B) := A_inany.df (ok_isInAny A_inany.fn D_isin) (fun _ _ _ _ _ _ us hl => match us, hl with | [_, _], _ => rfl)
  have D_tidy : Df P w K mg base 3 "tidy" ["boxes"] (spTidy W.B) := A_tidy.df (ok_tidy A_tidy.fn B D_inany) (fun _ _ _ _ _ _ us hl => match us, hl with | [_], _ => rfl)
  have D_rounda : Df P w K mg base 4 "round_all" ["boxes"] (spRoundAll W.B) := A_rounda.df (ok_roundAll A_rounda.fn D_roundb) (fun _ _ _ _ _ _ us hl => match us, hl with | [_], _ => rfl)
  have D_growth : Df P w K mg base 4 "growth" ["one", "other"] (spGrowth W.B) := A_growth.df (ok_growth A_growth.fn D_amount D_roundb) (fun _ _ _ _ _ _ us hl => match us, hl with | [_, _], _ => rfl)
  have D_pairs : Df P w K mg base 5 "pairs_with" ["box", "mark", "kept"] (spPairsWith W.B) := A_pairs.df (ok_pairsWith A_pairs.fn D_growth) (fun _ _ _ _ _ _ us hl => match us, hl with | [_, _, _], _ => rfl)
  have D_four : Df P w K mg base 6 "at_most_four" ["boxes"] (spFour W.B) := A_four.df (ok_four A_four.fn B cB D_tidy D_pairs D_roundb D_isin) (fun _ _ _ _ _ _ us hl => match us, hl with | [_], _ => rfl)
  have D_least : Df P w K mg base 1 "least_taken" ["low", "high", "lo", "hi"] (spLeast) := A_least.df (ok_least A_least.fn B) (fun _ _ _ _ _ _ us hl => match us, hl with | [_, _, _, _], _ => rfl)
  have D_most : Df P w K mg base 1 "most_taken" ["low", "high", "lo", "hi"] (spMost) := A_most.df (ok_most A_most.fn B) (fun _ _ _ _ _ _ us hl => match us, hl with | [_, _, _, _], _ => rfl)
  have MS : SeaMk P w K mg base W := ⟨⟨f_S, fd_S, I_S.mks, ok_seaInit I_S.fn TS MB, I_S.fn.binds (fun _ _ _ _ _ _ us hl => match us, hl with | [_, _, _, _], _ => rfl)⟩, I_S.nm⟩
  have M_copied : Mth P w K mg base W.S 5 "copied" ["self"] (spCopied W) := A_copied.mth (ok_copied A_copied.fn TS MS) (fun _ _ _ _ _ _ us hl => match us, hl with | [_], _ => rfl)
  have M_drift : Mth P w K mg base W.S 3 "hour_drift" ["self"] (spDrift W) := A_drift.mth (ok_drift A_drift.fn TS TB MB D_least D_most) (fun _ _ _ _ _ _ us hl => match us, hl with | [_], _ => rfl)
  have M_after : Mth P w K mg base W.S 7 "boxes_after" ["self", "n"] (spAfter W) := A_after.mth (ok_after A_after.fn B TS M_drift D_moved D_without D_four) (fun _ _ _ _ _ _ us hl => match us, hl with | [_, _], _ => rfl)
  have M_begin : Mth P w K mg base W.K 5 "begin" ["self", "box", "lo", "hi"] (spBegin W) := A_begin.mth (ok_begin A_begin.fn TK MS) (fun _ _ _ _ _ _ us hl => match us, hl with | [_, _, _, _], _ => rfl)
  have M_change : Mth P w K mg base W.K 1 "change" ["self", "changed"] (spChange W) := A_change.mth (ok_change A_change.fn TK cBack) (fun _ _ _ _ _ _ us hl => match us, hl with | [_, _], _ => rfl)
  have M_tback : Mth P w K mg base W.K 1 "take_back" ["self"] (spTakeBack W) := A_tback.mth (ok_takeBack A_tback.fn TK) (fun _ _ _ _ _ _ us hl => match us, hl with | [_], _ => rfl)
  have M_tagain : Mth P w K mg base W.K 1 "do_again" ["self"] (spDoAgain W) := A_tagain.mth (ok_doAgain A_tagain.fn TK) (fun _ _ _ _ _ _ us hl => match us, hl with | [_], _ => rfl)
  have MK : CrsMk P w K mg base W := ⟨⟨f_K, fd_K, I_K.mks, ok_cInit I_K.fn TK MB M_begin, I_K.fn.binds (fun _ _ _ _ _ _ us hl => match us, hl with | [_], _ => rfl)⟩, I_K.nm⟩
  have E : En P w K mg base W := ⟨B, TB, TS, TK, MB, D_told, D_edges, D_within, D_amount, D_without, D_narrowed, D_inany, D_tidy, D_rounda, D_four, M_copied, M_drift, M_after, M_begin, M_change, M_tback, M_tagain, cNone, cNa, cRoom, cNowhere, cLate, cFar, cSought, cFastC, cFastW, cShare, cShores, cHours, cAhead, cLast⟩
  have D_hours : Df P w K mg base 1 "are_hours" ["n"] (spAreHours) := A_hours.df (ok_areHours A_hours.fn cHours) (fun _ _ _ _ _ _ us hl => match us, hl with | [_], _ => rfl)
  have D_eof : Df P w K mg base 2 "edges_of" ["boxes", "i"] (spEdgesOf W) := A_eof.df (ok_edgesOf A_eof.fn E) (fun _ _ _ _ _ _ us hl => match us, hl with | [_, _], _ => rfl)
  have C_0 : CallOk P w K mg base W 0 f_w0 := ⟨fd_w0, ok_start A_w0.fn E, A_w0.fn.kp, A_w0.fn.binds (fun _ _ _ _ _ _ us hl => match us, hl with | [_, _], _ => rfl)⟩
  have C_1 : CallOk P w K mg base W 1 f_w1 := ⟨fd_w1, ok_land A_w1.fn E, A_w1.fn.kp, A_w1.fn.binds (fun _ _ _ _ _ _ us hl => match us, hl with | [_, _], _ => rfl)⟩
  have C_2 : CallOk P w K mg base W 2 f_w2 := ⟨fd_w2, ok_current A_w2.fn E, A_w2.fn.kp, A_w2.fn.binds (fun _ _ _ _ _ _ us hl => match us, hl with | [_, _], _ => rfl)⟩
  have C_3 : CallOk P w K mg base W 3 f_w3 := ⟨fd_w3, ok_wind A_w3.fn E, A_w3.fn.kp, A_w3.fn.binds (fun _ _ _ _ _ _ us hl => match us, hl with | [_, _], _ => rfl)⟩
  have C_4 : CallOk P w K mg base W 4 f_w4 := ⟨fd_w4, ok_hours A_w4.fn E D_hours, A_w4.fn.kp, A_w4.fn.binds (fun _ _ _ _ _ _ us hl => match us, hl with | [_, _], _ => rfl)⟩
  have C_5 : CallOk P w K mg base W 5 f_w5 := ⟨fd_w5, ok_sighted A_w5.fn E, A_w5.fn.kp, A_w5.fn.binds (fun _ _ _ _ _ _ us hl => match us, hl with | [_, _], _ => rfl)⟩
  have C_6 : CallOk P w K mg base W 6 f_w6 := ⟨fd_w6, ok_searched A_w6.fn E, A_w6.fn.kp, A_w6.fn.binds (fun _ _ _ _ _ _ us hl => match us, hl with | [_, _], _ => rfl)⟩
  have C_7 : CallOk P w K mg base W 7 f_w7 := ⟨fd_w7, ok_other A_w7.fn E, A_w7.fn.kp, A_w7.fn.binds (fun _ _ _ _ _ _ us hl => match us, hl with | [_, _], _ => rfl)⟩
  have C_8 : CallOk P w K mg base W 8 f_w8 := ⟨fd_w8, ok_wbox A_w8.fn E D_eof, A_w8.fn.kp, A_w8.fn.binds (fun _ _ _ _ _ _ us hl => match us, hl with | [_, _], _ => rfl)⟩
  have C_9 : CallOk P w K mg base W 9 f_w9 := ⟨fd_w9, ok_may A_w9.fn E, A_w9.fn.kp, A_w9.fn.binds (fun _ _ _ _ _ _ us hl => match us, hl with | [_, _], _ => rfl)⟩
  have C_10 : CallOk P w K mg base W 10 f_w10 := ⟨fd_w10, ok_round A_w10.fn E, A_w10.fn.kp, A_w10.fn.binds (fun _ _ _ _ _ _ us hl => match us, hl with | [_, _], _ => rfl)⟩
  have C_11 : CallOk P w K mg base W 11 f_w11 := ⟨fd_w11, ok_area A_w11.fn E, A_w11.fn.kp, A_w11.fn.binds (fun _ _ _ _ _ _ us hl => match us, hl with | [_, _], _ => rfl)⟩
  have C_12 : CallOk P w K mg base W 12 f_w12 := ⟨fd_w12, ok_wdrift A_w12.fn E, A_w12.fn.kp, A_w12.fn.binds (fun _ _ _ _ _ _ us hl => match us, hl with | [_, _], _ => rfl)⟩
  have C_13 : CallOk P w K mg base W 13 f_w13 := ⟨fd_w13, ok_ahead A_w13.fn E D_hours, A_w13.fn.kp, A_w13.fn.binds (fun _ _ _ _ _ _ us hl => match us, hl with | [_, _], _ => rfl)⟩
  have C_14 : CallOk P w K mg base W 14 f_w14 := ⟨fd_w14, ok_reaches A_w14.fn E, A_w14.fn.kp, A_w14.fn.binds (fun _ _ _ _ _ _ us hl => match us, hl with | [_, _], _ => rfl)⟩
  have C_15 : CallOk P w K mg base W 15 f_w15 := ⟨fd_w15, ok_best A_w15.fn E, A_w15.fn.kp, A_w15.fn.binds (fun _ _ _ _ _ _ us hl => match us, hl with | [_, _], _ => rfl)⟩
  have C_16 : CallOk P w K mg base W 16 f_w16 := ⟨fd_w16, ok_centre A_w16.fn E, A_w16.fn.kp, A_w16.fn.binds (fun _ _ _ _ _ _ us hl => match us, hl with | [_, _], _ => rfl)⟩
  have C_17 : CallOk P w K mg base W 17 f_w17 := ⟨fd_w17, ok_widest A_w17.fn E, A_w17.fn.kp, A_w17.fn.binds (fun _ _ _ _ _ _ us hl => match us, hl with | [_, _], _ => rfl)⟩
  have C_18 : CallOk P w K mg base W 18 f_w18 := ⟨fd_w18, ok_lands A_w18.fn E, A_w18.fn.kp, A_w18.fn.binds (fun _ _ _ _ _ _ us hl => match us, hl with | [_, _], _ => rfl)⟩
  have C_19 : CallOk P w K mg base W 19 f_w19 := ⟨fd_w19, ok_shore A_w19.fn E D_eof, A_w19.fn.kp, A_w19.fn.binds (fun _ _ _ _ _ _ us hl => match us, hl with | [_, _], _ => rfl)⟩
  have C_20 : CallOk P w K mg base W 20 f_w20 := ⟨fd_w20, ok_told A_w20.fn E, A_w20.fn.kp, A_w20.fn.binds (fun _ _ _ _ _ _ us hl => match us, hl with | [_, _], _ => rfl)⟩
  have C_21 : CallOk P w K mg base W 21 f_w21 := ⟨fd_w21, ok_back A_w21.fn E, A_w21.fn.kp, A_w21.fn.binds (fun _ _ _ _ _ _ us hl => match us, hl with | [_, _], _ => rfl)⟩
  have C_22 : CallOk P w K mg base W 22 f_w22 := ⟨fd_w22, ok_again A_w22.fn E, A_w22.fn.kp, A_w22.fn.binds (fun _ _ _ _ _ _ us hl => match us, hl with | [_, _], _ => rfl)⟩
  have C_23 : CallOk P w K mg base W 23 f_w23 := ⟨fd_w23, ok_state A_w23.fn E, A_w23.fn.kp, A_w23.fn.binds (fun _ _ _ _ _ _ us hl => match us, hl with | [_, _], _ => rfl)⟩
  refine ok_answers A_ans.fn B MK ⟨hT, hTab, fun j n hj => ?_⟩
  match j, hj with
  | 0, hj => cases hj; exact ⟨t_0, f_w0, rfl, P_w0, C_0⟩
  | 1, hj => cases hj; exact ⟨t_1, f_w1, rfl, P_w1, C_1⟩
  | 2, hj => cases hj; exact ⟨t_2, f_w2, rfl, P_w2, C_2⟩
  | 3, hj => cases hj; exact ⟨t_3, f_w3, rfl, P_w3, C_3⟩
  | 4, hj => cases hj; exact ⟨t_4, f_w4, rfl, P_w4, C_4⟩
  | 5, hj => cases hj; exact ⟨t_5, f_w5, rfl, P_w5, C_5⟩
  | 6, hj => cases hj; exact ⟨t_6, f_w6, rfl, P_w6, C_6⟩
  | 7, hj => cases hj; exact ⟨t_7, f_w7, rfl, P_w7, C_7⟩
  | 8, hj => cases hj; exact ⟨t_8, f_w8, rfl, P_w8, C_8⟩
  | 9, hj => cases hj; exact ⟨t_9, f_w9, rfl, P_w9, C_9⟩
  | 10, hj => cases hj; exact ⟨t_10, f_w10, rfl, P_w10, C_10⟩
  | 11, hj => cases hj; exact ⟨t_11, f_w11, rfl, P_w11, C_11⟩
  | 12, hj => cases hj; exact ⟨t_12, f_w12, rfl, P_w12, C_12⟩
  | 13, hj => cases hj; exact ⟨t_13, f_w13, rfl, P_w13, C_13⟩
  | 14, hj => cases hj; exact ⟨t_14, f_w14, rfl, P_w14, C_14⟩
  | 15, hj => cases hj; exact ⟨t_15, f_w15, rfl, P_w15, C_15⟩
  | 16, hj => cases hj; exact ⟨t_16, f_w16, rfl, P_w16, C_16⟩
  | 17, hj => cases hj; exact ⟨t_17, f_w17, rfl, P_w17, C_17⟩
  | 18, hj => cases hj; exact ⟨t_18, f_w18, rfl, P_w18, C_18⟩
  | 19, hj => cases hj; exact ⟨t_19, f_w19, rfl, P_w19, C_19⟩
  | 20, hj => cases hj; exact ⟨t_20, f_w20, rfl, P_w20, C_20⟩
  | 21, hj => cases hj; exact ⟨t_21, f_w21, rfl, P_w21, C_21⟩
  | 22, hj => cases hj; exact ⟨t_22, f_w22, rfl, P_w22, C_22⟩
  | 23, hj => cases hj; exact ⟨t_23, f_w23, rfl, P_w23, C_23⟩
  | j + 24, hj => simp [argN] at hj
end
end Db
end
/-! The head lays a twin beside each long written thing (a tree of the heap, a list of texts), with a proof that grows with the square of its length. These names are taken, so it goes on without those twins: the same proof, a smaller file. -/
def PySem.W.Fast.tw8186410096024108641 : Nat := 0
def PySem.W.Fast.tw16192064988542039434 : Nat := 0
def PySem.W.Fast.tw5102286533677861722 : Nat := 0
def PySem.W.Fast.tw12609142891428982662 : Nat := 0
def PySem.W.Fast.tw15748958326756987362 : Nat := 0
def PySem.W.Fast.tw6522839657295817632 : Nat := 0
def PySem.W.Fast.tw1533883736913156208 : Nat := 0
def PySem.W.Fast.tw16899449526006401384 : Nat := 0
def PySem.W.Fast.tw11484371875032798265 : Nat := 0
def PySem.W.Fast.tw10566202470232921613 : Nat := 0
def PySem.W.Fast.tw15487374713586538530 : Nat := 0
def PySem.W.Fast.tw3929960979205857740 : Nat := 0
def PySem.W.Fast.tw4171481941614079646 : Nat := 0
def PySem.W.Fast.tw7849453935610256461 : Nat := 0
def PySem.W.Fast.tw1967510063418922879 : Nat := 0
def PySem.W.Fast.tw5833948165371350691 : Nat := 0
def PySem.W.Fast.tw879616389603639176 : Nat := 0
def PySem.W.Fast.tw7980561540775433910 : Nat := 0
open PySem PySem.W PyProof.Rows
set_option Elab.async false
set_option linter.all false
set_option maxRecDepth 100000 in
set_option maxHeartbeats 0 in
theorem PySem.Challenge.cw_driftboxes_s01_answers_holds : PySem.Challenge.rw_driftboxes_s01_answers.Holds := by
  w_on; k_headS; (case hw => exact ⟨[.list [.int 0, .int 0, .int 0, .int 0, .int 0, .int 0, .int 0]], by decide +kernel, by decide +kernel⟩)
  k_fillS
  refine L2.walk_specK (r := PySem.Challenge.rw_driftboxes_s01_answers) (k := 9) (CX := L2.CX0) (ps := ["calls"]) (sp := Db.spAns) (by decide +kernel) rfl rfl ⟨rfl, by decide, by decide⟩ (fun w h Y => PySem.W.kIn_of Y) ?F ?S (fun _ _ _ _ z => z)
  case F =>
    intro w mg fa h Y KX G hmg
    obtain ⟨fd_B, I_B⟩ := Db.init_of (x := "Box") (qual := "Box.__init__") (st := Db.sBoxInit) KX G (by k_is) (by k_is) (by k_is) (by k_is) (by k_is) (by k_is) (by k_is) (by k_is) (by k_is) (by k_is) (by k_is) (by k_is)
    obtain ⟨fd_S, I_S⟩ := Db.init_of (x := "Sea") (qual := "Sea.__init__") (st := Db.sSeaInit) KX G (by k_is) (by k_is) (by k_is) (by k_is) (by k_is) (by k_is) (by k_is) (by k_is) (by k_is) (by k_is) (by k_is) (by k_is)
    obtain ⟨fd_K, I_K⟩ := Db.init_of (x := "Course") (qual := "Course.__init__") (st := Db.sCInit) KX G (by k_is) (by k_is) (by k_is) (by k_is) (by k_is) (by k_is) (by k_is) (by k_is) (by k_is) (by k_is) (by k_is) (by k_is)
    have TB := Db.boxcls_of I_B (by k_is) (by k_is) (by k_is) (by k_is)
    have TS := Db.seacls_of I_S (by k_is) (by k_is) (by k_is) (by k_is) (by k_is) (by k_is) (by k_is) (by k_is) (by k_is)
    have TK := Db.crscls_of I_K (by k_is) (by k_is) (by k_is)
    obtain ⟨fd_has, A_has⟩ := Db.def_of (x := "has_places") (st := Db.sHasPlaces) KX G (by k_is) (by k_is) (by k_is) (by k_is)
    obtain ⟨fd_within, A_within⟩ := Db.def_of (x := "is_box_within") (st := Db.sIsBoxWithin) KX G (by k_is) (by k_is) (by k_is) (by k_is)
    obtain ⟨fd_isin, A_isin⟩ := Db.def_of (x := "is_in") (st := Db.sIsIn) KX G (by k_is) (by k_is) (by k_is) (by k_is)
    obtain ⟨fd_amount, A_amount⟩ := Db.def_of (x := "amount") (st := Db.sAmount) KX G (by k_is) (by k_is) (by k_is) (by k_is)
    obtain ⟨fd_overlap, A_overlap⟩ := Db.def_of (x := "overlap") (st := Db.sOverlap) KX G (by k_is) (by k_is) (by k_is) (by k_is)
    obtain ⟨fd_roundb, A_roundb⟩ := Db.def_of (x := "round_both") (st := Db.sRoundBoth) KX G (by k_is) (by k_is) (by k_is) (by k_is)
    obtain ⟨fd_moved, A_moved⟩ := Db.def_of (x := "moved") (st := Db.sMoved) KX G (by k_is) (by k_is) (by k_is) (by k_is)
    obtain ⟨fd_edges, A_edges⟩ := Db.def_of (x := "edges") (st := Db.sEdges) KX G (by k_is) (by k_is) (by k_is) (by k_is)
    obtain ⟨fd_told, A_told⟩ := Db.def_of (x := "box_told") (st := Db.sBoxTold) KX G (by k_is) (by k_is) (by k_is) (by k_is)
    obtain ⟨fd_less, A_less⟩ := Db.def_of (x := "less") (st := Db.sLess) KX G (by k_is) (by k_is) (by k_is) (by k_is)
    obtain ⟨fd_without, A_without⟩ := Db.def_of (x := "without") (st := Db.sWithout) KX G (by k_is) (by k_is) (by k_is) (by k_is)
    obtain ⟨fd_narrowed, A_narrowed⟩ := Db.def_of (x := "narrowed") (st := Db.sNarrowed) KX G (by k_is) (by k_is) (by k_is) (by k_is)
    obtain ⟨fd_inany, A_inany⟩ := Db.def_of (x := "is_in_any") (st := Db.sIsInAny) KX G (by k_is) (by k_is) (by k_is) (by k_is)
    obtain ⟨fd_tidy, A_tidy⟩ := Db.def_of (x := "tidy") (st := Db.sTidy) KX G (by k_is) (by k_is) (by k_is) (by k_is)
    obtain ⟨fd_rounda, A_rounda⟩ := Db.def_of (x := "round_all") (st := Db.sRoundAll) KX G (by k_is) (by k_is) (by k_is) (by k_is)
    obtain ⟨fd_growth, A_growth⟩ := Db.def_of (x := "growth") (st := Db.sGrowth) KX G (by k_is) (by k_is) (by k_is) (by k_is)
    obtain ⟨fd_pairs, A_pairs⟩ := Db.def_of (x := "pairs_with") (st := Db.sPairsWith) KX G (by k_is) (by k_is) (by k_is) (by k_is)
    obtain ⟨fd_four, A_four⟩ := Db.def_of (x := "at_most_four") (st := Db.sFour) KX G (by k_is) (by k_is) (by k_is) (by k_is)
    obtain ⟨fd_least, A_least⟩ := Db.def_of (x := "least_taken") (st := Db.sLeast) KX G (by k_is) (by k_is) (by k_is) (by k_is)
    obtain ⟨fd_most, A_most⟩ := Db.def_of (x := "most_taken") (st := Db.sMost) KX G (by k_is) (by k_is) (by k_is) (by k_is)
    obtain ⟨fd_hours, A_hours⟩ := Db.def_of (x := "are_hours") (st := Db.sAreHours) KX G (by k_is) (by k_is) (by k_is) (by k_is)
    obtain ⟨fd_eof, A_eof⟩ := Db.def_of (x := "edges_of") (st := Db.sEdgesOf) KX G (by k_is) (by k_is) (by k_is) (by k_is)
    obtain ⟨fd_copied, A_copied⟩ := Db.meth_at I_S (m := "copied") (qual := "Sea.copied") (st := Db.sCopied) (by k_is) (by k_is) (by k_is) (by k_is) (by k_is)
    obtain ⟨fd_drift, A_drift⟩ := Db.meth_at I_S (m := "hour_drift") (qual := "Sea.hour_drift") (st := Db.sDrift) (by k_is) (by k_is) (by k_is) (by k_is) (by k_is)
    obtain ⟨fd_after, A_after⟩ := Db.meth_at I_S (m := "boxes_after") (qual := "Sea.boxes_after") (st := Db.sAfter) (by k_is) (by k_is) (by k_is) (by k_is) (by k_is)
    obtain ⟨fd_begin, A_begin⟩ := Db.meth_at I_K (m := "begin") (qual := "Course.begin") (st := Db.sBegin) (by k_is) (by k_is) (by k_is) (by k_is) (by k_is)
    obtain ⟨fd_change, A_change⟩ := Db.meth_at I_K (m := "change") (qual := "Course.change") (st := Db.sChange) (by k_is) (by k_is) (by k_is) (by k_is) (by k_is)
    obtain ⟨fd_tback, A_tback⟩ := Db.meth_at I_K (m := "take_back") (qual := "Course.take_back") (st := Db.sTakeBack) (by k_is) (by k_is) (by k_is) (by k_is) (by k_is)
    obtain ⟨fd_tagain, A_tagain⟩ := Db.meth_at I_K (m := "do_again") (qual := "Course.do_again") (st := Db.sDoAgain) (by k_is) (by k_is) (by k_is) (by k_is) (by k_is)
    obtain ⟨fd_w0, A_w0⟩ := Db.def_of (x := "wm_start") (st := Db.sStart) KX G (by k_is) (by k_is) (by k_is) (by k_is)
    obtain ⟨fd_w1, A_w1⟩ := Db.def_of (x := "wm_land") (st := Db.sLand) KX G (by k_is) (by k_is) (by k_is) (by k_is)
    obtain ⟨fd_w2, A_w2⟩ := Db.def_of (x := "wm_current") (st := Db.sCurrent) KX G (by k_is) (by k_is) (by k_is) (by k_is)
    obtain ⟨fd_w3, A_w3⟩ := Db.def_of (x := "wm_wind") (st := Db.sWind) KX G (by k_is) (by k_is) (by k_is) (by k_is)
    obtain ⟨fd_w4, A_w4⟩ := Db.def_of (x := "wm_hours") (st := Db.sHours) KX G (by k_is) (by k_is) (by k_is) (by k_is)
    obtain ⟨fd_w5, A_w5⟩ := Db.def_of (x := "wm_sighted") (st := Db.sSighted) KX G (by k_is) (by k_is) (by k_is) (by k_is)
    obtain ⟨fd_w6, A_w6⟩ := Db.def_of (x := "wm_searched") (st := Db.sSearched) KX G (by k_is) (by k_is) (by k_is) (by k_is)
    obtain ⟨fd_w7, A_w7⟩ := Db.def_of (x := "wm_other") (st := Db.sOther) KX G (by k_is) (by k_is) (by k_is) (by k_is)
    obtain ⟨fd_w8, A_w8⟩ := Db.def_of (x := "wm_box") (st := Db.sWBox) KX G (by k_is) (by k_is) (by k_is) (by k_is)
    obtain ⟨fd_w9, A_w9⟩ := Db.def_of (x := "wm_may") (st := Db.sMay) KX G (by k_is) (by k_is) (by k_is) (by k_is)
    obtain ⟨fd_w10, A_w10⟩ := Db.def_of (x := "wm_round") (st := Db.sRound) KX G (by k_is) (by k_is) (by k_is) (by k_is)
    obtain ⟨fd_w11, A_w11⟩ := Db.def_of (x := "wm_area") (st := Db.sArea) KX G (by k_is) (by k_is) (by k_is) (by k_is)
    obtain ⟨fd_w12, A_w12⟩ := Db.def_of (x := "wm_drift") (st := Db.sWDrift) KX G (by k_is) (by k_is) (by k_is) (by k_is)
    obtain ⟨fd_w13, A_w13⟩ := Db.def_of (x := "wm_ahead") (st := Db.sAhead) KX G (by k_is) (by k_is) (by k_is) (by k_is)
    obtain ⟨fd_w14, A_w14⟩ := Db.def_of (x := "wm_reaches") (st := Db.sReaches) KX G (by k_is) (by k_is) (by k_is) (by k_is)
    obtain ⟨fd_w15, A_w15⟩ := Db.def_of (x := "wm_best") (st := Db.sBest) KX G (by k_is) (by k_is) (by k_is) (by k_is)
    obtain ⟨fd_w16, A_w16⟩ := Db.def_of (x := "wm_centre") (st := Db.sCentre) KX G (by k_is) (by k_is) (by k_is) (by k_is)
    obtain ⟨fd_w17, A_w17⟩ := Db.def_of (x := "wm_widest") (st := Db.sWidest) KX G (by k_is) (by k_is) (by k_is) (by k_is)
    obtain ⟨fd_w18, A_w18⟩ := Db.def_of (x := "wm_lands") (st := Db.sLands) KX G (by k_is) (by k_is) (by k_is) (by k_is)
    obtain ⟨fd_w19, A_w19⟩ := Db.def_of (x := "wm_shore") (st := Db.sShore) KX G (by k_is) (by k_is) (by k_is) (by k_is)
    obtain ⟨fd_w20, A_w20⟩ := Db.def_of (x := "wm_told") (st := Db.sTold) KX G (by k_is) (by k_is) (by k_is) (by k_is)
    obtain ⟨fd_w21, A_w21⟩ := Db.def_of (x := "wm_back") (st := Db.sBack) KX G (by k_is) (by k_is) (by k_is) (by k_is)
    obtain ⟨fd_w22, A_w22⟩ := Db.def_of (x := "wm_again") (st := Db.sAgain) KX G (by k_is) (by k_is) (by k_is) (by k_is)
    obtain ⟨fd_w23, A_w23⟩ := Db.def_of (x := "wm_state") (st := Db.sState) KX G (by k_is) (by k_is) (by k_is) (by k_is)
    obtain ⟨fd_ans, A_ans⟩ := Db.def_of (x := "answers") (st := Db.sAnswers) KX G (by k_is) (by k_is) (by k_is) (by k_is)
    obtain ⟨hT, hTab⟩ := Db.table24 KX G (by k_is) (by k_is)
    have B : Db.Blt mg := ⟨PySem.W.mg_none_of (n := "max") KX G (by k_is), PySem.W.mg_none_of (n := "min") KX G (by k_is), PySem.W.mg_none_of (n := "len") KX G (by k_is), PySem.W.mg_none_of (n := "sum") KX G (by k_is), PySem.W.mg_none_of (n := "range") KX G (by k_is), PySem.W.mg_none_of (n := "enumerate") KX G (by k_is), PySem.W.mg_none_of (n := "dict") KX G (by k_is), PySem.W.mg_none_of (n := "list") KX G (by k_is)⟩
    have cB := Db.int_of (x := "MOST_BOXES") (i := 4) KX G (by k_is)
    have cBack := Db.int_of (x := "MOST_BACK") (i := 20) KX G (by k_is)
    have cNone := Db.int_of (x := "NONE_SUCH") (i := (-2)) KX G (by k_is)
    have cNa := Db.int_of (x := "NOT_ALLOWED") (i := (-22)) KX G (by k_is)
    have cRoom := Db.int_of (x := "NO_ROOM") (i := (-28)) KX G (by k_is)
    have cNowhere := Db.int_of (x := "NOWHERE") (i := (-33)) KX G (by k_is)
    have cLate := Db.int_of (x := "TOO_LATE") (i := (-75)) KX G (by k_is)
    have cFar := Db.int_of (x := "FARTHEST_TOLD") (i := 1000000) KX G (by k_is)
    have cSought := Db.int_of (x := "FARTHEST_SOUGHT") (i := 3000000) KX G (by k_is)
    have cFastC := Db.int_of (x := "FASTEST_CURRENT") (i := 100) KX G (by k_is)
    have cFastW := Db.int_of (x := "FASTEST_WIND") (i := 1000) KX G (by k_is)
    have cShare := Db.int_of (x := "MOST_SHARE") (i := 20) KX G (by k_is)
    have cShores := Db.int_of (x := "MOST_LANDS") (i := 4) KX G (by k_is)
    have cHours := Db.int_of (x := "MOST_HOURS") (i := 24) KX G (by k_is)
    have cAhead := Db.int_of (x := "FARTHEST_AHEAD") (i := 48) KX G (by k_is)
    have cLast := Db.int_of (x := "LAST_HOUR") (i := 1000) KX G (by k_is)
    have e := hmg.symm.trans A_ans.mg
    cases e
    refine ⟨fd_ans, fun s us hu => ?b, fun base _ _ => Db.all_ok (W := ⟨_, _, _, by decide, by decide, by decide⟩) B TB TS TK I_B I_S I_K A_has A_within A_isin A_amount A_overlap A_roundb A_moved A_edges A_told A_less A_without A_narrowed A_inany A_tidy A_rounda A_growth A_pairs A_four A_least A_most A_hours A_eof A_copied A_drift A_after A_begin A_change A_tback A_tagain A_w0 A_w1 A_w2 A_w3 A_w4 A_w5 A_w6 A_w7 A_w8 A_w9 A_w10 A_w11 A_w12 A_w13 A_w14 A_w15 A_w16 A_w17 A_w18 A_w19 A_w20 A_w21 A_w22 A_w23 (Db.pair_of (by k_is)) (Db.pair_of (by k_is)) (Db.pair_of (by k_is)) (Db.pair_of (by k_is)) (Db.pair_of (by k_is)) (Db.pair_of (by k_is)) (Db.pair_of (by k_is)) (Db.pair_of (by k_is)) (Db.pair_of (by k_is)) (Db.pair_of (by k_is)) (Db.pair_of (by k_is)) (Db.pair_of (by k_is)) (Db.pair_of (by k_is)) (Db.pair_of (by k_is)) (Db.pair_of (by k_is)) (Db.pair_of (by k_is)) (Db.pair_of (by k_is)) (Db.pair_of (by k_is)) (Db.pair_of (by k_is)) (Db.pair_of (by k_is)) (Db.pair_of (by k_is)) (Db.pair_of (by k_is)) (Db.pair_of (by k_is)) (Db.pair_of (by k_is)) cB cBack cNone cNa cRoom cNowhere cLate cFar cSought cFastC cFastW cShare cShores cHours cAhead cLast hT hTab A_ans⟩
    obtain ⟨_, _, _, _, _, _, _, _, _, rfl, _, _⟩ := A_ans.fn.ex
    exact match us, hu with | [_], _ => .of_eq rfl
  case S =>
    intro K H xs a hO hwi hask hx
    cases hx with
    | cons h1 h2 =>
      cases h2
      cases h1 with
      | lst hs ha =>
        have e := L2.ints_dw a.1 _ ha
        subst e
        exact ⟨_, a.1, rfl, hO, hs, hask, fun H' p hp => .lst (L2.SqL.of hp) (L2.dw_ints _)⟩

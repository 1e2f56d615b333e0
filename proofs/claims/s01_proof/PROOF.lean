import PyProof.Rows.All
import Wide.All
import OpenK.AllK
import Wide.FinOn
import PyUt03
import Open.SpecLaws
import KE.OsGo
import HandS.ForSpec
import HandS.Comp
import HandS.Iter
import HandS.Lambda
import HandS.SortKw
import HandS.RevTup
import HandS.Rev
import PyFlatLaws
import HandS.Flt
import HandS.Conv
import HandS.Deep
import HandS.SetFor
import HandS.TupSets
import KE.KNest
import PySem.Challenge.RW_translations_s01_answers
set_option Elab.async false
namespace TM
/-! ### The distance of beginnings -/
def lev (a b : List Nat) : Nat → Nat → Nat
  | 0, j => j
  | i + 1, 0 => i + 1
  | i + 1, j + 1 => min (min (lev a b i (j + 1) + 1) (lev a b (i + 1) j + 1)) (lev a b i j + if a.getD i 0 = b.getD j 0 then 0 else 1)
termination_by i j => (i, j)
theorem lev_zero (a b : List Nat) (j : Nat) : lev a b 0 j = j := by rw [lev]
theorem lev_succ_zero (a b : List Nat) (i : Nat) : lev a b (i + 1) 0 = i + 1 := by rw [lev]
theorem lev_succ (a b : List Nat) (i j : Nat) : lev a b (i + 1) (j + 1) = min (min (lev a b i (j + 1) + 1) (lev a b (i + 1) j + 1)) (lev a b i j + if a.getD i 0 = b.getD j 0 then 0 else 1) := by rw [lev]
theorem lev_i_zero (a b : List Nat) : ∀ i, lev a b i 0 = i
  | 0 => lev_zero a b 0
  | i + 1 => lev_succ_zero a b i
theorem lev_symm (a b : List Nat) : ∀ i j, lev a b i j = lev b a j i
  | 0, j => by rw [lev_zero, lev_i_zero]
  | i + 1, 0 => by rw [lev_succ_zero, lev_zero]
  | i + 1, j + 1 => by
    rw [lev_succ, lev_succ, lev_symm a b i (j + 1), lev_symm a b (i + 1) j, lev_symm a b i j]
    have e : (if a.getD i 0 = b.getD j 0 then 0 else 1) = (if b.getD j 0 = a.getD i 0 then 0 else 1) := by
      by_cases c : a.getD i 0 = b.getD j 0
      · rw [if_pos c, if_pos c.symm]
      · rw [if_neg c, if_neg (fun z => c z.symm)]
    rw [e, Nat.min_comm (lev b a (j + 1) i + 1)]
termination_by i j => (i, j)
theorem lev_le (a b : List Nat) : ∀ i j, lev a b i j ≤ max i j
  | 0, j => by rw [lev_zero]; omega
  | i + 1, 0 => by rw [lev_succ_zero]; omega
  | i + 1, j + 1 => by
    rw [lev_succ]
    have h := lev_le a b i j
    have e : (if a.getD i 0 = b.getD j 0 then 0 else 1) ≤ 1 := by split <;> omega
    omega
/-! ### The table -/
def levRow (a b : List Nat) (i : Nat) : List Nat := (List.range (b.length + 1)).map fun j => lev a b i j
theorem levRow_get {a b : List Nat} {i j : Nat} (h : j ≤ b.length) : (levRow a b i).getD j 0 = lev a b i j := by
  unfold levRow
  rw [List.getD_eq_getElem?_getD, List.getElem?_map, List.getElem?_range (by omega)]
  rfl
theorem levRow_len (a b : List Nat) (i : Nat) : (levRow a b i).length = b.length + 1 := by
  unfold levRow; rw [List.length_map, List.length_range]
theorem levRow_zero (a b : List Nat) : levRow a b 0 = List.range (b.length + 1) := by
  unfold levRow
  have e : (fun j => lev a b 0 j) = id := by
    funext j
    exact lev_zero a b j
  rw [e, List.map_id]
theorem zips_eq (a b : List Nat) (i : Nat) : b.zip ((levRow a b i).zip ((levRow a b i).drop 1)) = (List.range b.length).map fun j => (b.getD j 0, (lev a b i j, lev a b i (j + 1))) := by
  refine List.ext_getElem ?_ fun n h1 h2 => ?_
  · simp only [List.length_zip, List.length_drop, levRow_len, List.length_map, List.length_range]
    omega
  · have hn : n < b.length := by
      rw [List.length_map, List.length_range] at h2
      exact h2
    simp only [List.getElem_zip, List.getElem_drop, List.getElem_map, List.getElem_range, levRow]
    rw [List.getD_eq_getElem?_getD, List.getElem?_eq_getElem hn, Nat.add_comm 1 n]
    rfl
theorem fold_row (a b : List Nat) (i : Nat) : ∀ n, ((List.range n).map fun j => (b.getD j 0, (lev a b i j, lev a b i (j + 1)))).foldl (fun (x : List Nat × Nat) (y : Nat × Nat × Nat) =>
      let v := min (min (y.2.2 + 1) (x.2 + 1)) (y.2.1 + if a.getD i 0 = y.1 then 0 else 1)
      (v :: x.1, v)) ([i + 1], i + 1) = (((List.range (n + 1)).map fun j => lev a b (i + 1) j).reverse, lev a b (i + 1) n)
  | 0 => by
    rw [lev_succ_zero]
    show ([i + 1], i + 1) = _
    simp [lev_succ_zero]
  | n + 1 => by
    rw [List.range_succ, List.map_append, List.foldl_append, fold_row a b i n]
    show (_ :: _, _) = _
    rw [List.range_succ (n := n + 1), List.map_append, List.reverse_append]
    show (min (min (lev a b i (n + 1) + 1) (lev a b (i + 1) n + 1)) (lev a b i n + if a.getD i 0 = b.getD n 0 then 0 else 1) :: _, min (min (lev a b i (n + 1) + 1) (lev a b (i + 1) n + 1)) (lev a b i n + if a.getD i 0 = b.getD n 0 then 0 else 1)) = _
    rw [← lev_succ]
    rfl
theorem nextRow_eq (a b : List Nat) (i : Nat) : Ut03.nextRow (a.getD i 0) b (levRow a b i) (i + 1) = levRow a b (i + 1) := by
  unfold Ut03.nextRow
  rw [zips_eq, fold_row a b i b.length, List.reverse_reverse]
  rfl
theorem rowsFrom_eq (a b : List Nat) : ∀ (w : List Nat) (k : Nat), a.drop k = w → Ut03.rowsFrom b w (levRow a b k) k = (List.range (w.length + 1)).map fun i => levRow a b (k + i)
  | [], k, _ => rfl
  | x :: w, k, h => by
    have hk : k < a.length := by
      have q := congrArg List.length h
      rw [List.length_drop, List.length_cons] at q
      omega
    have hx : a.getD k 0 = x := by
      rw [List.drop_eq_getElem_cons hk] at h
      rw [List.getD_eq_getElem?_getD, List.getElem?_eq_getElem hk]
      exact (List.cons.inj h).1
    have hw : a.drop (k + 1) = w := by
      rw [List.drop_eq_getElem_cons hk] at h
      exact (List.cons.inj h).2
    show levRow a b k :: Ut03.rowsFrom b w (Ut03.nextRow x b (levRow a b k) (k + 1)) (k + 1) = _
    rw [← hx, nextRow_eq, rowsFrom_eq a b w (k + 1) hw, List.length_cons, List.range_succ_eq_map (n := w.length + 1), List.map_cons, List.map_map]
    refine congrArg (List.cons _) (List.map_congr_left fun i _ => ?_)
    show levRow a b (k + 1 + i) = levRow a b (k + (i + 1))
    rw [Nat.add_assoc, Nat.add_comm 1 i]
def levTab (a b : List Nat) : List (List Nat) := (List.range (a.length + 1)).map (levRow a b)
theorem table_eq (a b : List Nat) : Ut03.table a b = levTab a b := by
  unfold Ut03.table
  rw [← levRow_zero a b, rowsFrom_eq a b a 0 rfl]
  unfold levTab
  exact List.map_congr_left fun i _ => by rw [Nat.zero_add]
theorem getLastD_snoc {α : Type} (l : List α) (x d : α) : (l ++ [x]).getLastD d = x := by simp
theorem distance_eq (a b : List Nat) : Ut03.distance a b = lev a b a.length b.length := by
  unfold Ut03.distance
  rw [table_eq]
  unfold levTab
  rw [List.range_succ, List.map_append]
  show ((_ ++ [levRow a b a.length]).getLastD []).getLastD 0 = _
  rw [getLastD_snoc]
  unfold levRow
  rw [List.range_succ, List.map_append]
  exact getLastD_snoc _ _ _
theorem distance_symm (a b : List Nat) : Ut03.distance a b = Ut03.distance b a := by
  rw [distance_eq, distance_eq, lev_symm]
theorem distance_le (a b : List Nat) : Ut03.distance a b ≤ max a.length b.length := by
  rw [distance_eq]
  exact lev_le a b _ _
theorem near_symm (a b : List Nat) : Ut03.near a b = Ut03.near b a := by
  unfold Ut03.near
  rw [distance_symm a b, Nat.max_comm]
theorem levTab_get {a b : List Nat} {i j : Nat} (hi : i ≤ a.length) (hj : j ≤ b.length) : ((levTab a b).getD i []).getD j 0 = lev a b i j := by
  unfold levTab
  rw [List.getD_eq_getElem?_getD (l := List.map _ _), List.getElem?_map, List.getElem?_range (by omega)]
  exact levRow_get hj
/-! ### The way -/
/-- the step told at the ends i, j -/
def stepAt (a b : List Nat) (i j : Nat) : Nat :=
  if 0 < i ∧ 0 < j ∧ a.getD (i - 1) 0 = b.getD (j - 1) 0 ∧ lev a b i j = lev a b (i - 1) (j - 1) then 0 else
  if 0 < i ∧ 0 < j ∧ lev a b i j = lev a b (i - 1) (j - 1) + 1 then 1 else
  if 0 < i ∧ lev a b i j = lev a b (i - 1) j + 1 then 2 else 3
def nextI (k i : Nat) : Nat := if k = 3 then i else i - 1
def nextJ (k j : Nat) : Nat := if k = 2 then j else j - 1
theorem wayFrom_step (a b : List Nat) {f i j : Nat} (hi : i ≤ a.length) (hj : j ≤ b.length) (h : ¬ (i = 0 ∧ j = 0)) :
    Ut03.wayFrom (Ut03.table a b) a b (f + 1) i j = Ut03.wayFrom (Ut03.table a b) a b f (nextI (stepAt a b i j) i) (nextJ (stepAt a b i j) j) ++ [stepAt a b i j] := by
  rw [Ut03.wayFrom]
  simp only [table_eq]
  rw [if_neg h, levTab_get hi hj, levTab_get (i := i - 1) (j := j - 1) (by omega) (by omega), levTab_get (i := i - 1) (j := j) (by omega) hj]
  unfold stepAt
  by_cases c1 : 0 < i ∧ 0 < j ∧ a.getD (i - 1) 0 = b.getD (j - 1) 0 ∧ lev a b i j = lev a b (i - 1) (j - 1)
  · rw [if_pos c1, if_pos c1]
    rfl
  · rw [if_neg c1, if_neg c1]
    by_cases c2 : 0 < i ∧ 0 < j ∧ lev a b i j = lev a b (i - 1) (j - 1) + 1
    · rw [if_pos c2, if_pos c2]
      rfl
    · rw [if_neg c2, if_neg c2]
      by_cases c3 : 0 < i ∧ lev a b i j = lev a b (i - 1) j + 1
      · rw [if_pos c3, if_pos c3]
        rfl
      · rw [if_neg c3, if_neg c3]
        rfl
theorem step_lt (a b : List Nat) {i j : Nat} (h : ¬ (i = 0 ∧ j = 0)) : nextI (stepAt a b i j) i + nextJ (stepAt a b i j) j < i + j := by
  unfold stepAt nextI nextJ
  by_cases c1 : 0 < i ∧ 0 < j ∧ a.getD (i - 1) 0 = b.getD (j - 1) 0 ∧ lev a b i j = lev a b (i - 1) (j - 1)
  · simp only [if_pos c1]
    show (i - 1) + (j - 1) < i + j
    omega
  · simp only [if_neg c1]
    by_cases c2 : 0 < i ∧ 0 < j ∧ lev a b i j = lev a b (i - 1) (j - 1) + 1
    · simp only [if_pos c2]
      show (i - 1) + (j - 1) < i + j
      omega
    · simp only [if_neg c2]
      by_cases c3 : 0 < i ∧ lev a b i j = lev a b (i - 1) j + 1
      · simp only [if_pos c3]
        show (i - 1) + j < i + j
        omega
      · simp only [if_neg c3]
        by_cases c4 : j = 0
        · subst c4
          have hi : 0 < i := by omega
          obtain ⟨i', rfl⟩ : ∃ i', i = i' + 1 := ⟨i - 1, by omega⟩
          exact absurd ⟨hi, by rw [lev_succ_zero, Nat.add_sub_cancel, lev_i_zero]⟩ c3
        · simp
          omega
theorem step_price (a b : List Nat) {i j : Nat} (h : ¬ (i = 0 ∧ j = 0)) : lev a b (nextI (stepAt a b i j) i) (nextJ (stepAt a b i j) j) + (if stepAt a b i j = 0 then 0 else 1) = lev a b i j := by
  unfold stepAt nextI nextJ
  by_cases c1 : 0 < i ∧ 0 < j ∧ a.getD (i - 1) 0 = b.getD (j - 1) 0 ∧ lev a b i j = lev a b (i - 1) (j - 1)
  · simp only [if_pos c1]
    simp
    omega
  · simp only [if_neg c1]
    by_cases c2 : 0 < i ∧ 0 < j ∧ lev a b i j = lev a b (i - 1) (j - 1) + 1
    · simp only [if_pos c2]
      simp
      omega
    · simp only [if_neg c2]
      by_cases c3 : 0 < i ∧ lev a b i j = lev a b (i - 1) j + 1
      · simp only [if_pos c3]
        simp
        omega
      · simp only [if_neg c3]
        simp
        cases i with
        | zero =>
          rw [lev_zero, lev_zero]
          omega
        | succ i =>
          cases j with
          | zero => exact absurd ⟨Nat.succ_pos i, by rw [lev_succ_zero, Nat.add_sub_cancel, lev_i_zero]⟩ c3
          | succ j =>
            simp only [Nat.add_sub_cancel] at c1 c2 c3 ⊢
            have e := lev_succ a b i j
            by_cases c : a.getD i 0 = b.getD j 0
            · rw [if_pos c] at e
              have n1 : ¬ lev a b (i + 1) (j + 1) = lev a b i j := fun z => c1 ⟨by omega, by omega, c, z⟩
              have n3 : ¬ lev a b (i + 1) (j + 1) = lev a b i (j + 1) + 1 := fun z => c3 ⟨by omega, z⟩
              omega
            · rw [if_neg c] at e
              have n2 : ¬ lev a b (i + 1) (j + 1) = lev a b i j + 1 := fun z => c2 ⟨by omega, by omega, z⟩
              have n3 : ¬ lev a b (i + 1) (j + 1) = lev a b i (j + 1) + 1 := fun z => c3 ⟨by omega, z⟩
              omega
theorem nextI_le (k i : Nat) : nextI k i ≤ i := by
  unfold nextI
  split <;> omega
theorem nextJ_le (k j : Nat) : nextJ k j ≤ j := by
  unfold nextJ
  split <;> omega
theorem price_snoc (w : List Nat) (k : Nat) : Ut03.price (w ++ [k]) = Ut03.price w + (if k = 0 then 0 else 1) := by
  unfold Ut03.price
  rw [List.filter_append, List.length_append]
  by_cases c : k = 0
  · subst c
    simp
  · simp [c]
theorem price_from (a b : List Nat) : ∀ (f i j : Nat), i ≤ a.length → j ≤ b.length → i + j ≤ f → Ut03.price (Ut03.wayFrom (Ut03.table a b) a b f i j) = lev a b i j
  | 0, i, j, _, _, h => by
    have e1 : i = 0 := by omega
    have e2 : j = 0 := by omega
    subst e1 e2
    rw [lev_zero]
    rfl
  | f + 1, i, j, hi, hj, h => by
    by_cases c : i = 0 ∧ j = 0
    · obtain ⟨rfl, rfl⟩ := c
      rw [lev_zero]
      rfl
    · have hl := step_lt a b c
      rw [wayFrom_step a b hi hj c, price_snoc, price_from a b f _ _ (Nat.le_trans (nextI_le _ _) hi) (Nat.le_trans (nextJ_le _ _) hj) (by omega), step_price a b c]
theorem price_way (a b : List Nat) : Ut03.price (Ut03.way a b) = Ut03.distance a b := by
  unfold Ut03.way
  rw [price_from a b _ _ _ (Nat.le_refl _) (Nat.le_refl _) (by omega), distance_eq]
/-- what the loop over the ends keeps -/
theorem way_done (a b : List Nat) (f : Nat) : Ut03.wayFrom (Ut03.table a b) a b f 0 0 = [] := by
  cases f with
  | zero => rfl
  | succ f =>
    rw [Ut03.wayFrom]
    exact if_pos ⟨rfl, rfl⟩
end TM

set_option Elab.async false
namespace TM
/-! ### What is found -/
abbrev Hit := Nat × Nat × List Nat
def hitOf (x : Nat × Ut03.Entry) : Hit := (x.1, x.2.number, x.2.target)
def betterH (x y : Hit) : Bool := decide (y.1 < x.1) || (y.1 == x.1 && decide (y.2.1 < x.2.1))
def insH (x : Hit) : List Hit → List Hit
  | [] => [x]
  | y :: l => if betterH x y = true then x :: y :: l else y :: insH x l
def sortH (l : List Hit) : List Hit := l.foldr insH []
def first1 (m : List Hit) (x : Hit) : List Hit := if (m.any fun y => y.2.2 == x.2.2) = true then m else m ++ [x]
def firsts (l : List Hit) : List Hit := l.foldl first1 []
theorem better_hit (x y : Nat × Ut03.Entry) : Ut03.better x y = betterH (hitOf x) (hitOf y) := rfl
theorem ins_hit (x : Nat × Ut03.Entry) : ∀ l, (Ut03.insertBy x l).map hitOf = insH (hitOf x) (l.map hitOf)
  | [] => rfl
  | y :: l => by
    show (if Ut03.better x y = true then x :: y :: l else y :: Ut03.insertBy x l).map hitOf = (if betterH (hitOf x) (hitOf y) = true then hitOf x :: hitOf y :: l.map hitOf else hitOf y :: insH (hitOf x) (l.map hitOf))
    rw [better_hit]
    split
    · rfl
    · rw [List.map_cons, ins_hit x l]
theorem sort_hit : ∀ l : List (Nat × Ut03.Entry), (l.foldr Ut03.insertBy []).map hitOf = sortH (l.map hitOf)
  | [] => rfl
  | x :: l => by
    show (Ut03.insertBy x (l.foldr Ut03.insertBy [])).map hitOf = insH (hitOf x) (sortH (l.map hitOf))
    rw [ins_hit, sort_hit l]
theorem firsts_hit : ∀ (l m : List (Nat × Ut03.Entry)), (l.foldl (fun m x => if (m.any fun y => y.2.target == x.2.target) = true then m else m ++ [x]) m).map hitOf = (l.map hitOf).foldl first1 (m.map hitOf)
  | [], m => rfl
  | x :: l, m => by
    rw [List.foldl_cons, firsts_hit l, List.map_cons, List.foldl_cons]
    refine congrArg (List.foldl first1 · (l.map hitOf)) ?_
    unfold first1
    have e : ((m.map hitOf).any fun y => y.2.2 == (hitOf x).2.2) = (m.any fun y => y.2.target == x.2.target) := by
      rw [List.any_map]
      rfl
    rw [e]
    split
    · rfl
    · rw [List.map_append]
      rfl
/-- an entry's hit for an ask -/
def hitFor (q : Ut03.Ask) (e : Ut03.Entry) : Hit := (Ut03.score q e, e.number, e.target)
def enough (l : List Ut03.Entry) (q : Ut03.Ask) (least : Nat) : List Hit := (l.map (hitFor q)).filter fun x => decide (least ≤ x.1)
def foundH (l : List Ut03.Entry) (q : Ut03.Ask) (least : Nat) : List Hit := firsts (sortH (enough l q least))
theorem filter_hit (q : Ut03.Ask) (least : Nat) : ∀ l : List Ut03.Entry, ((l.map fun e => (Ut03.score q e, e)).filter fun x => decide (least ≤ x.1)).map hitOf = enough l q least
  | [] => rfl
  | e :: l => by
    have ih := filter_hit q least l
    unfold enough at ih ⊢
    rw [List.map_cons, List.map_cons, List.filter_cons, List.filter_cons]
    show (if decide (least ≤ Ut03.score q e) = true then _ else _ : List (Nat × Ut03.Entry)).map hitOf = if decide (least ≤ Ut03.score q e) = true then _ else _
    split
    · rw [List.map_cons, ih]
      rfl
    · exact ih
theorem found_hit (l : List Ut03.Entry) (q : Ut03.Ask) (least : Nat) : (Ut03.found l q least).map hitOf = foundH l q least := by
  unfold Ut03.found foundH firsts
  rw [firsts_hit, sort_hit, filter_hit]
  rfl
/-! ### The order -/
def R (x y : Hit) : Prop := betterH x y = true
theorem R_iff {x y : Hit} : R x y ↔ y.1 < x.1 ∨ (y.1 = x.1 ∧ y.2.1 < x.2.1) := by
  unfold R betterH
  simp
theorem R_trans {x y z : Hit} (h1 : R x y) (h2 : R y z) : R x z := by
  rw [R_iff] at *
  omega
theorem R_asymm {x y : Hit} (h1 : R x y) (h2 : R y x) : False := by
  rw [R_iff] at *
  omega
theorem R_of_not {x y : Hit} (h : ¬ betterH x y = true) (n : x.2.1 ≠ y.2.1) : R y x := by
  have h : ¬ R x y := h
  rw [R_iff] at *
  omega
theorem insH_perm (x : Hit) : ∀ l, (insH x l).Perm (x :: l)
  | [] => List.Perm.refl _
  | y :: l => by
    show (if betterH x y = true then x :: y :: l else y :: insH x l).Perm (x :: y :: l)
    split
    · exact List.Perm.refl _
    · exact ((insH_perm x l).cons y).trans (List.Perm.swap x y l)
theorem sortH_perm : ∀ l, (sortH l).Perm l
  | [] => List.Perm.refl _
  | x :: l => (insH_perm x (sortH l)).trans ((sortH_perm l).cons x)
theorem insH_sorted (x : Hit) : ∀ l : List Hit, l.Pairwise R → (∀ y ∈ l, x.2.1 ≠ y.2.1) → (insH x l).Pairwise R
  | [], _, _ => List.pairwise_singleton _ _
  | y :: l, h, n => by
    show (if betterH x y = true then x :: y :: l else y :: insH x l).Pairwise R
    obtain ⟨h1, h2⟩ := (List.pairwise_cons (R := R)).mp h
    by_cases c : betterH x y = true
    · rw [if_pos c]
      refine List.pairwise_cons.mpr ⟨fun z hz => ?_, h⟩
      rcases List.mem_cons.mp hz with e0 | hz'
      · rw [e0]; exact c
      · exact R_trans c (h1 z hz')
    · rw [if_neg c]
      refine List.pairwise_cons.mpr ⟨fun z hz => ?_, insH_sorted x l h2 fun y hy => n y (List.mem_cons_of_mem _ hy)⟩
      rcases List.mem_cons.mp ((insH_perm x l).mem_iff.mp hz) with rfl | hz
      · exact R_of_not c (n y (List.mem_cons_self ..))
      · exact h1 z hz
theorem sortH_sorted : ∀ l : List Hit, (l.map fun x => x.2.1).Nodup → (sortH l).Pairwise R
  | [], _ => List.Pairwise.nil
  | x :: l, h => by
    obtain ⟨h1, h2⟩ := (List.nodup_cons (l := l.map _)).mp h
    refine insH_sorted x (sortH l) (sortH_sorted l h2) fun y hy z => h1 ?_
    show x.2.1 ∈ _
    rw [z]
    exact List.mem_map.mpr ⟨y, (sortH_perm l).mem_iff.mp hy, rfl⟩
theorem sorted_one : ∀ {l m : List Hit}, l.Perm m → l.Pairwise R → m.Pairwise R → l = m
  | [], m, p, _, _ => (List.Perm.nil_eq p)
  | x :: l, [], p, _, _ => absurd p.length_eq (by simp)
  | x :: l, y :: m, p, h1, h2 => by
    obtain ⟨a1, a2⟩ := List.pairwise_cons.mp h1
    obtain ⟨b1, b2⟩ := List.pairwise_cons.mp h2
    have e : x = y := by
      rcases List.mem_cons.mp (p.mem_iff.mp (List.mem_cons_self ..)) with e | hx
      · exact e
      · rcases List.mem_cons.mp (p.mem_iff.mpr (List.mem_cons_self (a := y) (l := m))) with e | hy
        · exact e.symm
        · exact (R_asymm (a1 y hy) (b1 x hx)).elim
    subst e
    rw [sorted_one (List.Perm.cons_inv p) a2 b2]
theorem sortH_is {l m : List Hit} (hn : (l.map fun x => x.2.1).Nodup) (p : m.Perm l) (h : m.Pairwise R) : m = sortH l :=
  sorted_one (p.trans (sortH_perm l).symm) h (sortH_sorted l hn)
/-! ### Of each translation the first -/
theorem firsts_snoc (l : List Hit) (x : Hit) : firsts (l ++ [x]) = first1 (firsts l) x := by
  unfold firsts
  rw [List.foldl_append]
  rfl
theorem first1_any (m : List Hit) (x : Hit) : (m.any fun y => y.2.2 == x.2.2) = (m.map fun y => y.2.2).contains x.2.2 := by
  rw [List.contains_eq_any_beq, List.any_map]
  refine congrArg (fun f => m.any f) ?_
  funext y
  show (y.2.2 == x.2.2) = (x.2.2 == y.2.2)
  exact BEq.comm
theorem firsts_len_le (l : List Hit) : ∀ m : List Hit, (l.foldl first1 m).length ≤ m.length + l.length := by
  induction l with
  | nil => intro m; exact Nat.le_refl _
  | cons x l ih =>
    intro m
    rw [List.length_cons, List.foldl_cons]
    have h := ih (first1 m x)
    have h2 : (first1 m x).length ≤ m.length + 1 := by
      unfold first1
      split
      · omega
      · rw [List.length_append]
        exact Nat.le_refl _
    omega
theorem firsts_le (l : List Hit) : (firsts l).length ≤ l.length := by
  have h := firsts_len_le l []
  simpa [firsts] using h
theorem firsts_head (x : Hit) (l : List Hit) : ∃ r, firsts (x :: l) = x :: r := by
  have gen : ∀ (l m : List Hit), ∃ r, l.foldl first1 (x :: m) = x :: r := by
    intro l
    induction l with
    | nil => exact fun m => ⟨m, rfl⟩
    | cons y l ih =>
      intro m
      rw [List.foldl_cons]
      unfold first1
      split
      · exact ih m
      · exact ih (m ++ [y])
  exact gen l []
theorem foundH_len (l : List Ut03.Entry) (q : Ut03.Ask) (least : Nat) : (foundH l q least).length ≤ l.length := by
  unfold foundH enough
  refine Nat.le_trans (firsts_le _) ?_
  rw [(sortH_perm _).length_eq]
  exact Nat.le_trans (List.length_filter_le _ _) (by rw [List.length_map]; exact Nat.le_refl _)
theorem enough_nodup {l : List Ut03.Entry} (q : Ut03.Ask) (least : Nat) (h : (l.map fun e => e.number).Nodup) : ((enough l q least).map fun x => x.2.1).Nodup := by
  unfold enough
  have e : (l.map fun e => e.number) = (l.map (hitFor q)).map fun x => x.2.1 := by
    rw [List.map_map]
    rfl
  rw [e] at h
  exact h.sublist (List.Sublist.map _ List.filter_sublist)
/-- whatever is least, something is found where there is something -/
theorem foundH_zero {l : List Ut03.Entry} (q : Ut03.Ask) (h : l ≠ []) : ∃ x r, foundH l q 0 = x :: r := by
  unfold foundH
  have e : enough l q 0 = l.map (hitFor q) := by
    unfold enough
    exact List.filter_eq_self.mpr fun x _ => by simp
  have hl : (sortH (enough l q 0)).length = l.length := by
    rw [(sortH_perm _).length_eq, e, List.length_map]
  cases hs : sortH (enough l q 0) with
  | nil =>
    rw [hs] at hl
    exact absurd (List.eq_nil_of_length_eq_zero hl.symm) h
  | cons x r =>
    obtain ⟨r', er⟩ := firsts_head x r
    exact ⟨x, r', er⟩
/-! ### What the calls answer, by hits -/
theorem find_hits (l : List Ut03.Entry) (q : Ut03.Ask) (least : Nat) : ((Ut03.found l q least).length : Int) :: Ut03.ints ((Ut03.found l q least).flatMap fun x => [x.1, x.2.number]) = ((foundH l q least).length : Int) :: Ut03.ints ((foundH l q least).flatMap fun x => [x.1, x.2.1]) := by
  rw [← found_hit, List.length_map, List.flatMap_map]
  rfl
theorem best_hits (l : List Ut03.Entry) (q : Ut03.Ask) (least : Nat) : (match Ut03.found l q least with
    | [] => ([-6] : List Int)
    | x :: _ => Ut03.ints ([x.1, x.2.number, x.2.target.length] ++ x.2.target)) = match foundH l q least with
    | [] => [-6]
    | x :: _ => Ut03.ints ([x.1, x.2.1, x.2.2.length] ++ x.2.2) := by
  rw [← found_hit]
  cases Ut03.found l q least <;> rfl
def fill1 (l : List Hit) : Nat × Nat := match l with
  | [] => (0, 0)
  | x :: _ => (x.1, x.2.1)
theorem filled_hits (l : List Ut03.Entry) (least : Nat) (asks : List Ut03.Ask) : Ut03.filled l least asks = asks.map fun q => fill1 (foundH l q least) := by
  unfold Ut03.filled
  refine List.map_congr_left fun q _ => ?_
  rw [← found_hit]
  cases Ut03.found l q least <;> rfl
/-! ### The score, as the program says it -/
def sameN (a b c d : Nat) : Nat := (if a = c then 1 else 0) + (if b = d then 1 else 0)
theorem score_is (q : Ut03.Ask) (e : Ut03.Entry) : Ut03.score q e =
    (if e.source = q.source then 100 + sameN e.ahead e.behind q.ahead q.behind else min (Ut03.near e.source q.source) 99) - (if e.client = q.client then 0 else 3) := by
  unfold Ut03.score sameN
  rw [near_symm q.source e.source]
  dsimp only
  by_cases c : e.source = q.source
  · rw [if_pos c, if_pos (show q.source = e.source from c.symm)]
    by_cases c1 : e.ahead = q.ahead
    · by_cases c2 : e.behind = q.behind
      · simp [c1, c2]
      · simp [c1, c2]
    · by_cases c2 : e.behind = q.behind
      · simp [c1, c2]
      · simp [c1, c2]
  · rw [if_neg c, if_neg (show ¬ q.source = e.source from fun z => c z.symm)]
end TM

set_option Elab.async false
set_option linter.all false
set_option maxRecDepth 100000
set_option maxHeartbeats 3000000
/-! ### sorted by a key that is called -/
namespace TM
open PySem PySem.Spec PyProof.Rows L2
/-- a lambda that captures nothing is called -/
theorem lam_run {P : Program} {w : World} {K : PySem.W.Frag} {mg : PySem.Str → Option Value} {base : Heap} {k : Nat} {f c' : Addr} {qual : PySem.Str} {params : Arguments} {body : Expr} {scope : Scope} {pm ctv : Value} {N ps : List PySem.Str}
    {A : Around} {outer : List Env} {s : Shared} {H : Hp} {us : List Value} {vs : List V} {Q : VK} {te : TE} (S : FnScope N ps scope) (hr : Room (k + 1) A) (e0 : Env0 P w K mg base A outer s H)
    (ho : s.heap.get? f = some (PySem.W.kla_obj "<lambda>" qual params body scope [] pm c' ctv)) (hc : H c' = some (LamX.CodeO c' qual))
    (hb : bindArgs (PySem.W.kla_fn "<lambda>" qual params body scope [] pm (.ref c') ctv) ⟨us, []⟩ = pure (ps.zip us)) (r : Vals vs us) (hl : vs.length = ps.length)
    (hbody : PE (cxOf CX0 P w K mg base N qual scope f (.ref c') A outer s H E0) body te) (hq : te (start N vs) H Q) :
    codeAny (model P w) A (.call (.ref f) ⟨us, []⟩) (CR CX0 outer P w H s Q E0) s := by
  have nolim := e0.mod.nolimit.keeps fun c u z => (e0.bs c u z).1
  obtain ⟨⟨oc, cvs, t, hoc, hdc, hvc⟩, _, _⟩ := e0.hok c' _ hc
  refine PySem.W.kla_callFunE hr.depth ho rfl S.co S.gen rfl ⟨c', oc, cvs, t, rfl, hoc, hdc, hvc⟩ ?_
  rw [hb]
  refine wpAny_pure (wpAny_newFunctionEnv_cells S.kind (fun y hy => (S.par y.1 (List.of_mem_zip hy).1).imp id fun z => ⟨z, PySem.W.cellsFrom_some _ _ _ (.inl z)⟩) fun env he s1 x => ?_)
  subst he
  refine ⟨nolim.keeps x.toInCall.keep, ?_⟩
  have I : Inv (cxOf CX0 P w K mg base N qual scope f (.ref c') A outer s H E0) [] (start N vs) H s1 := inv_start S hr.hd e0 hl r x
  refine PySem.W.kla_codeExpr (wpAny_mono (hbody.run [] s1 (start N vs) H Q I hq) (fun v s' h => ?_) fun e s' h => h)
  obtain ⟨v', H', J, rv, q⟩ := h
  exact ⟨v', H', J.os, J.bare, J.base, J.hok, rv, q⟩
/-- the key that stands at a tuple -/
def keyAt (H : Hp) : Value → Int × Int
  | .ref t => match H t with
    | some (.tup [.int x, .int y]) => (x, y)
    | _ => (0, 0)
  | _ => (0, 0)
theorem keyAt_is {H : Hp} {t : Addr} {x y : Int} (h : H t = some (.tup [.int x, .int y])) : keyAt H (.ref t) = (x, y) := by
  show (match H t with
    | some (.tup [.int x, .int y]) => (x, y)
    | _ => (0, 0)) = (x, y)
  rw [h]
theorem zip_mem {α β : Type} : ∀ {l : List α} {m : List β} {p : α × β}, p ∈ l.zip m → ∃ j : Nat, l[j]? = some p.1 ∧ m[j]? = some p.2
  | [], m, p, h => by simp at h
  | x :: l, [], p, h => by simp at h
  | x :: l, y :: m, p, h => by
    rw [List.zip_cons_cons] at h
    rcases List.mem_cons.mp h with h0 | h
    · exact ⟨0, by rw [h0]; rfl, by rw [h0]; rfl⟩
    · obtain ⟨j, h1, h2⟩ := zip_mem h
      exact ⟨j + 1, h1, h2⟩
section
variable {X : Cx} {pins : List (Addr × Obj)} {σ : L2.St} {A : Around}
theorem isPair_of {H : Hp} {s : Shared} {t : Addr} {x y : Int} (I : Inv X pins σ H s) (h : H t = some (.tup [.int x, .int y])) : Srt.IsPair s.heap (.ref t) x y := by
  obtain ⟨_, _, rr, ob, gt, cl, ep, dt⟩ := I.hok _ _ h
  obtain ⟨_, _, rfl, ⟨k1, rfl⟩, ⟨k2, rfl⟩⟩ := vals2 rr
  exact ⟨t, ob, k1, k2, ep, rfl, gt, cl, dt⟩
/-- the sort's last rows: the sorted items are written into the list -/
theorem tail_run {E : Value → Shared → Prop} {H : Hp} {s : Shared} {D kS : Addr} {ks zs : List V} {ol : List Value} {e1 : Nat} {b : Bool} {st : SortSt} {R : PySem.Fin → Shared → Prop} (hfl : failedOf st = none)
    (eol : (if b = true then ((arrOf st).map (·.2)).reverse else (arrOf st).map (·.2)) = ol.toArray)
    (I : Inv X pins σ H s) (hD : H D = some (.frz (seqObj "list" #[] e1) (.lst []))) (hn : ∀ o' u', X.H_0 D ≠ some (.frz o' u')) (hk : H kS = some (.lst ks)) (rol : Vals zs ol) (hz : zs.length ≤ sizeLine)
    (h : ∀ (H' : Hp) (s' : Shared), Inv X pins σ H' s' → (∀ c o, H c = some o → c ≠ D → c ≠ kS → H' c = some o) → H' D = some (.lst zs) → R (.done (.ret .none)) s') :
    wpAny (model X.prog X.w) A (ksk_tail D b e1 (.ref kS) st) R E s := by
  have ekd : kS ≠ D := ne_of hk hD (by intro z; cases z)
  obtain ⟨hkz, its, n, rk, hok⟩ := I.hok kS _ hk
  obtain ⟨hod, _⟩ := I.hok D _ hD
  have hkl : its.toArray.size ≤ sizeLine := by
    rw [List.size_toArray, ← rk.length]
    exact hkz
  have hol : ol.toArray.size ≤ sizeLine + 1 := by
    rw [List.size_toArray, ← rol.length]
    omega
  have hod1 : (s.heap.update kS (Obj.mapSeq fun _ => (#[] : Array Value))).get? D = some (seqObj "list" #[] e1) := (Heap.get?_update_ne _ _ _ _ ekd.symm).trans hod
  have hk1 := get?_update_seq hok fun _ => (#[] : Array Value)
  have hd1 := get?_update_seq hod1 fun _ => ol.toArray
  have I1 := I.write (x := kS) (e := kS) (o := .lst []) (t' := s.toks) (h' := s.heap.update kS (Obj.mapSeq fun _ => (#[] : Array Value))) (by rw [hk]; trivial) (.inl rfl) (fun c u hc e => (Heap.get?_update_ne _ _ _ _ hc).trans e) ⟨_, hk1⟩
    ⟨Nat.zero_le _, [], _, .nil, hk1⟩
  have hD1 : upd H kS (.lst []) D = some (.frz (seqObj "list" #[] e1) (.lst [])) := (upd_ne ekd.symm).trans hD
  have I2 := I1.unlock hD1 hn
  have I3 := I2.write (x := D) (e := D) (o := .lst zs) (t' := s.toks) (h' := (s.heap.update kS (Obj.mapSeq fun _ => (#[] : Array Value))).update D (Obj.mapSeq fun _ => ol.toArray)) (by rw [upd_same]; trivial) (.inl rfl)
    (fun c u hc e => (Heap.get?_update_ne _ _ _ _ hc).trans e) ⟨_, hd1⟩ ⟨hz, ol, _, rol, hd1⟩
  unfold ksk_tail
  dsimp only
  rw [hfl, eol]
  refine wpAny_bind (listUpdate_at hok rfl (wpAny_bind (wpAny_letGo (wpAny_bind (seqEpoch_at hod1 rfl (wpAny_bind (listUpdate_at hod1 rfl ?_ (Nat.zero_le _) hol)))))) hkl (Nat.zero_le _))
  rw [bne_self_eq_false e1]; simp only [Bool.false_eq_true, if_false]
  refine wpAny_pure ?_
  exact h _ _ I3 (fun c o e n1 n2 => by
    rw [upd_ne n1, upd_ne n1, upd_ne n2]
    exact e) upd_same
theorem tree_tail {E : Value → Shared → Prop} {H : Hp} {s : Shared} {D kS : Addr} {ys : List V} {vs : List Value} {ts : List Addr} {kf : V → Int × Int} {b : Bool} {e1 : Nat} {R : PySem.Fin → Shared → Prop} {st : SortSt}
    (I : Inv X pins σ H s) (rv : Vals ys vs) (hrefs : ∀ y ∈ ys, ∃ t, y = V.ref t) (hz : ys.length ≤ sizeLine) (hD : H D = some (.frz (seqObj "list" #[] e1) (.lst []))) (hn : ∀ o' u', X.H_0 D ≠ some (.frz o' u')) (hk : H kS = some (.lst (ts.map V.ref)))
    (hlen : ts.length = ys.length) (hkeys : ∀ (j : Nat) (t : Addr) (y : V), ts[j]? = some t → ys[j]? = some y → H t = some (.tup [.int (kf y).1, .int (kf y).2]))
    (hs : SrtO.Srtd (SrtO.lt2 fun v u => SrtO.lexB (keyAt H v) (keyAt H u)) (arrOf st).toList) (hp : (arrOf st).toList.Perm ((ts.map Value.ref).zip vs)) (hfl : failedOf st = none)
    (h : ∀ (zs : List V) (H' : Hp) (s' : Shared), Inv X pins σ H' s' → zs.Perm ys → SrtO.Srtd (ltP kf) zs → (∀ c o, H c = some o → c ≠ D → c ≠ kS → H' c = some o) → H' D = some (.lst (if b = true then zs.reverse else zs)) → R (.done (.ret .none)) s') :
    wpAny (model X.prog X.w) A (ksk_tail D b e1 (.ref kS) st) R E s := by
  have hlv : ys.length = vs.length := rv.length
  obtain ⟨e1v, e2v⟩ := refs_back rv hrefs
  have hpl : ((arrOf st).toList.map fun p : Keyed => p.2).Perm vs := by
    have q := hp.map fun p : Keyed => p.2
    have ez : ((ts.map Value.ref).zip vs).map (fun p : Keyed => p.2) = vs := List.map_snd_zip (by rw [List.length_map]; omega)
    rw [ez] at q
    exact q
  have hzs : ((arrOf st).toList.map fun p : Keyed => backV p.2).Perm ys := by
    have q := hpl.map backV
    rw [List.map_map] at q
    rw [e1v]
    exact q
  have hmem : ∀ p ∈ (arrOf st).toList, keyAt H p.1 = kf (backV p.2) := fun p hpm => by
    obtain ⟨j, h1, h2⟩ := zip_mem (hp.mem_iff.mp hpm)
    rw [List.getElem?_map] at h1
    cases e : ts[j]? with
    | none =>
      rw [e] at h1
      cases h1
    | some t =>
      rw [e] at h1
      have e3 : Value.ref t = p.1 := Option.some.inj h1
      have hy : ys[j]? = some (backV p.2) := by
        rw [e1v, List.getElem?_map, h2]
        rfl
      rw [← e3, keyAt_is (hkeys j t _ e hy)]
  have hso : SrtO.Srtd (ltP kf) ((arrOf st).toList.map fun p : Keyed => backV p.2) := by
    refine List.pairwise_map.mpr (List.Pairwise.imp_of_mem (fun {p q} hp' hq' z => ?_) hs)
    have z' : SrtO.lexB (keyAt H q.1) (keyAt H p.1) = false := z
    rw [hmem p hp', hmem q hq'] at z'
    exact z'
  have hrf : ∀ u ∈ (arrOf st).toList.map (fun p : Keyed => p.2), ∃ c, u = Value.ref c := fun u hu => e2v u (hpl.mem_iff.mp hu)
  have hrl : ∃ l : List Value, (if b = true then ((arrOf st).map (·.2)).reverse else (arrOf st).map (·.2)) = l.toArray ∧ Vals (if b = true then ((arrOf st).toList.map fun p : Keyed => backV p.2).reverse else (arrOf st).toList.map fun p : Keyed => backV p.2) l := by
    have eb : ((arrOf st).toList.map fun p : Keyed => backV p.2) = ((arrOf st).toList.map fun p : Keyed => p.2).map backV := by
      rw [List.map_map]
      rfl
    cases b with
    | false =>
      refine ⟨(arrOf st).toList.map fun p : Keyed => p.2, ?_, ?_⟩
      · show (arrOf st).map (·.2) = _
        apply Array.ext'
        rw [Array.toList_map]
      · show Vals ((arrOf st).toList.map fun p : Keyed => backV p.2) _
        rw [eb]
        exact vals_back hrf
    | true =>
      refine ⟨((arrOf st).toList.map fun p : Keyed => p.2).reverse, ?_, ?_⟩
      · show ((arrOf st).map (·.2)).reverse = _
        apply Array.ext'
        rw [Array.toList_reverse, Array.toList_map]
      · show Vals ((arrOf st).toList.map fun p : Keyed => backV p.2).reverse _
        rw [eb, ← List.map_reverse]
        exact vals_back fun u hu => hrf u (List.mem_reverse.mp hu)
  obtain ⟨ol, eol, rol⟩ := hrl
  have hlz : (if b = true then ((arrOf st).toList.map fun p : Keyed => backV p.2).reverse else (arrOf st).toList.map fun p : Keyed => backV p.2).length ≤ sizeLine := by
    have q := hzs.length_eq
    split
    · rw [List.length_reverse]
      omega
    · omega
  exact tail_run hfl eol I hD hn hk rol hlz fun H' s' I' k' d' => h _ H' s' I' hzs hso k' d'
end
end TM

set_option Elab.async false
set_option linter.all false
set_option maxRecDepth 100000
set_option maxHeartbeats 3000000
namespace TM
open PySem PySem.Spec PyProof.Rows L2
section
variable {X : Cx} {pins : List (Addr × Obj)} {σ : L2.St} {A : Around}
theorem refs_vals : ∀ (ts : List Addr) (its : List Value), Vals (ts.map V.ref) its → its = ts.map Value.ref
  | [], _, h => by
    cases h
    rfl
  | t :: ts, _, h => by
    cases h with
    | cons r q =>
      have e : _ = Value.ref t := r
      rw [e, refs_vals ts _ q]
      rfl
theorem zip_arr (l m : List Value) : (l.toArray.zip m.toArray).toList = l.zip m := by simp
theorem tree_end {E : Value → Shared → Prop} {H : Hp} {s : Shared} {D kS : Addr} {ys : List V} {vs : List Value} {ts : List Addr} {kf : V → Int × Int} {b : Bool} {e1 : Nat} {R : PySem.Fin → Shared → Prop}
    (I : Inv X pins σ H s) (rv : Vals ys vs) (hrefs : ∀ y ∈ ys, ∃ t, y = V.ref t) (hz : ys.length ≤ sizeLine) (hD : H D = some (.frz (seqObj "list" #[] e1) (.lst []))) (hn : ∀ o' u', X.H_0 D ≠ some (.frz o' u')) (hk : H kS = some (.lst (ts.map V.ref)))
    (hlen : ts.length = ys.length) (hkeys : ∀ (j : Nat) (t : Addr) (y : V), ts[j]? = some t → ys[j]? = some y → H t = some (.tup [.int (kf y).1, .int (kf y).2]))
    (h : ∀ (zs : List V) (H' : Hp) (s' : Shared), Inv X pins σ H' s' → zs.Perm ys → SrtO.Srtd (ltP kf) zs → (∀ c o, H c = some o → c ≠ D → c ≠ kS → H' c = some o) → H' D = some (.lst (if b = true then zs.reverse else zs)) → R (.done (.ret .none)) s') :
    wpAny (model X.prog X.w) A (ksk_end D b vs.toArray e1 (.ref kS) (ts.map Value.ref).toArray) R E s := by
  have hlv : ys.length = vs.length := rv.length
  have hpairs : ∀ v ∈ ts.map Value.ref, Srt.IsPair s.heap v (keyAt H v).1 (keyAt H v).2 := fun v hv => by
    obtain ⟨t, ht, rfl⟩ := List.mem_map.mp hv
    obtain ⟨j, hj⟩ := List.mem_iff_getElem?.mp ht
    have hjl : j < ys.length := by
      have := (List.getElem?_eq_some_iff.mp hj).1
      omega
    have e := hkeys j t _ hj (List.getElem?_eq_getElem hjl)
    rw [keyAt_is e]
    exact isPair_of I e
  have step : ∀ t : Sem PySem.Fin, wpAny (model X.prog X.w) A t R E s → wpAny (model X.prog X.w) A (if b = true then (do let _ ← rule "list.sort.reverse"; t) else t) R E s := by
    intro t ht
    split
    exact wpAny_bind (wpAny_rule ht); exact ht
  have hstart : ∀ l : Array Keyed, l = (if b = true then ((ts.map Value.ref).toArray.zip vs.toArray).reverse else (ts.map Value.ref).toArray.zip vs.toArray) → l.toList.Perm ((ts.map Value.ref).zip vs) := by
    intro l e
    rw [e]
    cases b with
    | false =>
      show ((ts.map Value.ref).toArray.zip vs.toArray).toList.Perm _
      rw [zip_arr]
    | true =>
      show ((ts.map Value.ref).toArray.zip vs.toArray).reverse.toList.Perm _
      rw [Array.toList_reverse, zip_arr]
      exact List.reverse_perm _
  unfold ksk_end
  try dsimp only
  refine step _ ?_
  generalize hst : (if b = true then ((ts.map Value.ref).toArray.zip vs.toArray).reverse else (ts.map Value.ref).toArray.zip vs.toArray) = st0
  have hp0 := hstart st0 hst.symm
  have hsz0 : st0.toList.length = vs.length := by
    rw [hp0.length_eq, List.length_zip, List.length_map]
    omega
  by_cases h2 : ¬ 2 ≤ vs.toArray.size
  · have h2' : vs.toArray.size < 2 := Nat.lt_of_not_le h2
    rw [if_pos h2', if_pos h2']
    refine wpAny_bind (wpAny_pure ?_); rw [StateT.run_pure]
    refine wpAny_bind (wpAny_pure ?_); try dsimp only
    refine tree_tail (st := SortSt.mk' general' st0 #[] 7 none) I rv hrefs hz hD hn hk hlen hkeys ?_ hp0 rfl h
    show SrtO.Srtd _ st0.toList
    rw [List.size_toArray] at h2
    match hl : st0.toList, hsz0 with
    | [], _ => exact .nil
    | [x], _ => exact List.pairwise_singleton _ _
    | _ :: _ :: l, q =>
      rw [List.length_cons, List.length_cons] at q
      omega
  · have h2' : ¬ vs.toArray.size < 2 := fun z => h2 (Nat.not_le_of_lt z)
    rw [if_neg h2', if_neg h2']
    rw [List.size_toArray] at h2
    have hts : 0 < (ts.map Value.ref).length := by
      rw [List.length_map]
      omega
    obtain ⟨κ, hkind, hT⟩ := SrtO.pairs_sortableO (prog := X.prog) (w := X.w) (A := A) (s := s) (a := D) hts hpairs (fun o e => by
      obtain ⟨hod, _⟩ := I.hok D _ hD
      rw [hod] at e
      cases e
      exact fun z => absurd (Value.type.inj z) (by decide)) s.heap (fun b o _ e => e)
    refine wpAny_bind (hkind (Q := _) (E := _) ?_)
    have hall : SrtO.AllL (fun p : Keyed => p.1 ∈ ts.map Value.ref) st0.toList := fun p hm => (List.of_mem_zip (hp0.mem_iff.mp hm)).1
    refine wpAny_bind (wpAny_mono (SrtO.wpS_sortO (st0 := SortSt.mk' κ st0 #[] 7 none)
      (Q := fun _ st' => SrtO.Srtd (SrtO.lt2 fun v u => SrtO.lexB (keyAt H v) (keyAt H u)) (arrOf st').toList ∧ (arrOf st').toList.Perm st0.toList ∧ failedOf st' = none) (SrtO.swo2 (SrtO.swo_lex (keyAt H))) hT rfl hall rfl rfl fun st' a1 a2 a3 => ⟨a1, a2.perm, a3⟩) ?_ fun _ _ e => e)
    rintro ⟨⟨⟩, st⟩ s' ⟨rfl, g1, g2, g3⟩
    exact tree_tail I rv hrefs hz hD hn hk hlen hkeys g1 (g2.trans hp0) g3 h
theorem take_snoc {α : Type} {l : List α} {i : Nat} {x : α} (h : l[i]? = some x) : l.take (i + 1) = l.take i ++ [x] := by
  rw [List.take_add_one, h]
  rfl
theorem push_arr (l : List Value) (v : Value) : l.toArray.push v = (l ++ [v]).toArray := by simp
/-- the items' keys are made, from the left -/
theorem tree_rest {E : Value → Shared → Prop} {H : Hp} {s : Shared} {D kS f : Addr} {ys : List V} {vs : List Value} {kf : V → Int × Int} {b : Bool} {e1 : Nat} {R : PySem.Fin → Shared → Prop}
    (I : Inv X pins σ H s) (rv : Vals ys vs) (hrefs : ∀ y ∈ ys, ∃ t, y = V.ref t) (hz : ys.length ≤ sizeLine) (hD : H D = some (.frz (seqObj "list" #[] e1) (.lst []))) (hn : ∀ o' u', X.H_0 D ≠ some (.frz o' u')) (hk : H kS = some (.lst []))
    (turn : ∀ (y : V) (u : Value) (H' : Hp) (s' : Shared) (Q' : VK), y ∈ ys → RelV y u → Inv X pins σ H' s' → (∀ c o, H c = some o → c ≠ kS → H' c = some o) →
      (∀ p, H' p = none → Q' (.ref p) (upd H' p (.tup [.int (kf y).1, .int (kf y).2]))) → codeAny (model X.prog X.w) A (.call (.ref f) ⟨[u], []⟩) (CR CX0 X.stack X.prog X.w H' s' Q' E0) s')
    (h : ∀ (zs : List V) (H' : Hp) (s' : Shared), Inv X pins σ H' s' → zs.Perm ys → SrtO.Srtd (ltP kf) zs → (∀ c o, H c = some o → c ≠ D → c ≠ kS → H' c = some o) → H' D = some (.lst (if b = true then zs.reverse else zs)) → R (.done (.ret .none)) s') :
    wpAny (model X.prog X.w) A (ksk_rest D (.ref f) b vs.toArray e1 (.ref kS)) R E s := by
  have hlv : ys.length = vs.length := rv.length
  have ekd : kS ≠ D := ne_of hk hD (by intro z; cases z)
  unfold ksk_rest
  refine wpAny_bind (wpAny_rule ?_); rw [List.forIn_toArray]
  refine wpAny_bind (ksk_fold (fun i s' => ∃ (Hi : Hp) (ts : List Addr), Inv X pins σ Hi s' ∧ (∀ c o, H c = some o → c ≠ kS → Hi c = some o) ∧ Hi kS = some (.lst (ts.map V.ref)) ∧ ts.length = i ∧
    ∀ (j : Nat) (t : Addr) (y : V), ts[j]? = some t → ys[j]? = some y → Hi t = some (.tup [.int (kf y).1, .int (kf y).2])) vs 0 s ⟨H, [], I, fun c o e _ => e, hk, rfl, fun j t y e => by simp at e⟩ ?step ?done)
  case step =>
    rintro j x s' hx ⟨Hi, ts, I', k', hk', hl, hkeys⟩
    rw [Nat.zero_add] at hl ⊢
    have hj := (List.getElem?_eq_some_iff.mp hx).1
    obtain ⟨y, hy⟩ : ∃ y, ys[j]? = some y := ⟨_, List.getElem?_eq_getElem (by omega)⟩
    obtain ⟨x', hx', rx⟩ := rv.get hy
    rw [hx] at hx'
    cases hx'
    have hym : y ∈ ys := List.mem_of_getElem? hy
    refine wpAny_bind (wpAny_attempt (wpAny_call (codeAny_mono (turn y x Hi s' (fun v H' => ∃ p, v = .ref p ∧ Hi p = none ∧ H' = upd Hi p (.tup [.int (kf y).1, .int (kf y).2])) hym rx I' k' fun p np => ⟨p, rfl, np, rfl⟩) fun r s2 hq => ?_)))
    cases r with
    | error e => exact absurd hq id
    | ok fl =>
      cases fl with
      | next => exact False.elim hq
      | brk => exact False.elim hq
      | cont => exact False.elim hq
      | ret u =>
        obtain ⟨v, H2, I2, r2, p, rfl, np, rfl⟩ := I'.after hq
        have eu : u = Value.ref p := r2
        subst eu
        have nkp : kS ≠ p := ne_of_none hk' np
        have hk2 : upd Hi p (.tup [.int (kf y).1, .int (kf y).2]) kS = some (.lst (ts.map V.ref)) := (upd_ne nkp).trans hk'
        obtain ⟨_, its, n, rk, hok⟩ := I2.hok kS _ hk2
        have hil : its.length = j := by
          rw [← rk.length, List.length_map]
          exact hl
        have hkl : its.toArray.size ≤ sizeLine := by
          rw [List.size_toArray]
          omega
        have hkl2 : (its.toArray.push (Value.ref p)).size ≤ sizeLine + 1 := by
          rw [Array.size_push, List.size_toArray]
          omega
        have hk3 := get?_update_seq hok fun z => z.push (Value.ref p)
        have I3 := I2.write (x := kS) (e := kS) (o := .lst ((ts ++ [p]).map V.ref)) (t' := s2.toks) (h' := s2.heap.update kS (Obj.mapSeq fun z => z.push (Value.ref p))) (by rw [hk2]; trivial) (.inl rfl)
          (fun c u hc e => (Heap.get?_update_ne _ _ _ _ hc).trans e) ⟨_, hk3⟩ ⟨by rw [List.length_map, List.length_append, List.length_singleton]; omega, its ++ [Value.ref p], _, by rw [List.map_append]; exact rk.append (.cons rfl .nil), by rw [← push_arr]; exact hk3⟩
        try dsimp only
        refine wpAny_bind (listUpdate_at hok rfl ?_ hkl hkl2)
        refine wpAny_pure ⟨rfl, _, ts ++ [p], I3, fun c o e n1 => ?_, upd_same, by rw [List.length_append, List.length_singleton, hl], fun i t z ht hz' => ?_⟩
        · rw [upd_ne n1, upd_ne (ne_of_none (k' c o e n1) np)]
          exact k' c o e n1
        · by_cases hi : i < ts.length
          · rw [List.getElem?_append_left hi] at ht
            have e := hkeys i t z ht hz'
            rw [upd_ne (ne_of e hk' (by intro z; cases z)), upd_ne (ne_of_none e np)]
            exact e
          · rw [List.getElem?_append_right (by omega)] at ht
            have hi2 : i - ts.length = 0 := by
              have := (List.getElem?_eq_some_iff.mp ht).1
              rw [List.length_singleton] at this
              omega
            rw [hi2] at ht
            have et : p = t := Option.some.inj ht
            subst et
            have ei : i = j := by omega
            subst ei
            rw [hy] at hz'
            cases hz'
            rw [upd_ne nkp.symm, upd_same]
  case done =>
    rintro s' ⟨Hi, ts, I', k', hk', hl, hkeys⟩
    rw [Nat.zero_add] at hl
    obtain ⟨_, its, n, rk, hok⟩ := I'.hok kS _ hk'
    have ei := refs_vals ts its rk
    subst ei
    try dsimp only
    refine wpAny_bind (listItems_at hok rfl ?_)
    refine tree_end I' rv hrefs hz (k' D _ hD ekd.symm) hn hk' (by omega) hkeys fun zs H' s'' I'' p1 p2 p3 p4 => h zs H' s'' I'' p1 p2 (fun c o e n1 n2 => p3 c o (k' c o e n2) n1 n2) p4
/-- list.sort by key and reverse -/
theorem tree_run {E : Value → Shared → Prop} {H : Hp} {s : Shared} {D f : Addr} {ys : List V} {kf : V → Int × Int} {b : Bool} {R : PySem.Fin → Shared → Prop}
    (I : Inv X pins σ H s) (hrefs : ∀ y ∈ ys, ∃ t, y = V.ref t) (hD : H D = some (.lst ys))
    (turn : ∀ (y : V) (u : Value) (H' : Hp) (s' : Shared) (Q' : VK), y ∈ ys → RelV y u → Inv X pins σ H' s' → (∀ c o, H c = some o → c ≠ D → H' c = some o) →
      (∀ p, H' p = none → Q' (.ref p) (upd H' p (.tup [.int (kf y).1, .int (kf y).2]))) → codeAny (model X.prog X.w) A (.call (.ref f) ⟨[u], []⟩) (CR CX0 X.stack X.prog X.w H' s' Q' E0) s')
    (h : ∀ (zs : List V) (H' : Hp) (s' : Shared), Inv X pins σ H' s' → zs.Perm ys → SrtO.Srtd (ltP kf) zs → (∀ c o, H c = some o → c ≠ D → H' c = some o) → H' D = some (.lst (if b = true then zs.reverse else zs)) → R (.done (.ret .none)) s') :
    wpAny (model X.prog X.w) A (ksk_tree D (.ref f) b) R E s := by
  obtain ⟨hz, vs, n, rv, ho⟩ := I.hok D _ hD
  have hzv := rv.length ▸ hz
  have ho1 := get?_update_seq ho fun _ => (#[] : Array Value)
  generalize (if ((#[] : Array Value).size == vs.toArray.size) = true then n else n + 1) = e1 at ho1
  have I1 := I.write (x := D) (e := D) (o := .lst []) (t' := s.toks) (h' := s.heap.update D (Obj.mapSeq fun _ => (#[] : Array Value))) (by rw [hD]; trivial) (.inl rfl) (fun c u hc e => (Heap.get?_update_ne _ _ _ _ hc).trans e) ⟨_, ho1⟩ ⟨Nat.zero_le _, [], _, .nil, ho1⟩
  have hnf := I1.nofrz upd_same trivial
  obtain ⟨od, I2⟩ := I1.lock (d := D) upd_same trivial
  have hod : od = seqObj "list" #[] e1 := by
    obtain ⟨q, _⟩ := I2.hok D _ upd_same
    have q' : (s.heap.update D (Obj.mapSeq fun _ => (#[] : Array Value))).get? D = some od := q
    rw [ho1] at q'
    exact (Option.some.inj q').symm
  subst hod
  have I3 := I2.kept (t' := s.toks) (h' := (s.heap.update D (Obj.mapSeq fun _ => (#[] : Array Value))).push (seqObj "tuple" vs.toArray 0)) (fun b u e => Heap.get?_push_of_some _ e)
  have I4 := I3.laid (a := ((s.heap.update D (Obj.mapSeq fun _ => (#[] : Array Value))).push (seqObj "tuple" vs.toArray 0)).objs.size) (o := .lst []) (t' := s.toks) (h' := ((s.heap.update D (Obj.mapSeq fun _ => (#[] : Array Value))).push (seqObj "tuple" vs.toArray 0)).push (seqObj "list" #[] 0))
    (fun b u e => Heap.get?_push_of_some _ e) (Nat.le_refl _) ⟨Nat.zero_le _, [], 0, .nil, Heap.get?_push_size _ rfl⟩
  have hnew := I3.hok.fresh (Nat.le_refl _)
  unfold ksk_tree
  refine wpAny_bind (listItems_at ho rfl (wpAny_bind (listUpdate_at ho rfl ?_ (by rw [List.size_toArray]; exact hzv) (Nat.zero_le _))))
  refine wpAny_bind (seqEpoch_at ho1 rfl (wpAny_bind (wpAny_newTuple (wpAny_bind (wpAny_newList (wpAny_holding ?_) (Nat.zero_le _))) (by show vs.length ≤ _; exact hzv))))
  generalize hkS : ((s.heap.update D (Obj.mapSeq fun _ => (#[] : Array Value))).push (seqObj "tuple" vs.toArray 0)).objs.size = kS at I4 hnew
  have nkD : D ≠ kS := fun z => by
    rw [← z, upd_same] at hnew
    cases hnew
  have kk : ∀ c o, H c = some o → c ≠ D → upd (upd (upd H D (.lst [])) D (.frz (seqObj "list" #[] e1) (.lst []))) kS (.lst []) c = some o := fun c o e n1 => by
    have nck : c ≠ kS := fun z => by
      rw [← z, upd_ne n1, upd_ne n1, e] at hnew
      cases hnew
    rw [upd_ne nck, upd_ne n1, upd_ne n1]
    exact e
  have ndk : ∀ c o, H c = some o → c ≠ D → c ≠ kS := fun c o e n1 z => by
    rw [← z, upd_ne n1, upd_ne n1, e] at hnew
    cases hnew
  have key := tree_rest (A := A) (E := E) (R := R) (f := f) (b := b) (kf := kf) I4 rv hrefs hz ((upd_ne nkD).trans upd_same) hnf upd_same
    (fun y u H' s' Q' hy ru I' k' hq => turn y u H' s' Q' hy ru I' (fun c o e n1 => k' c o (kk c o e n1) (ndk c o e n1)) hq)
    (fun zs H' s' I' p1 p2 p3 p4 => h zs H' s' I' p1 p2 (fun c o e n1 => p3 c o (kk c o e n1) n1 (ndk c o e n1)) p4)
  exact key
/-- the heap behind sorted's own copy of the list -/
abbrev cp (g : Heap) (l : List Value) : Heap := ((g.push (seqObj "list" #[] 0)).update g.objs.size (Obj.mapSeq (· ++ l.toArray))).push (seqObj "list" l.toArray 0)
theorem cp_size (g : Heap) (l : List Value) : ((g.push (seqObj "list" #[] 0)).update g.objs.size (Obj.mapSeq (· ++ l.toArray))).objs.size = g.objs.size + 1 := (Heap.size_update _ _ _).trans (size_push' _ _)
theorem cp_at (g : Heap) (l : List Value) : (cp g l).get? (g.objs.size + 1) = some (seqObj "list" l.toArray 0) := cp_size g l ▸ Heap.get?_push_size _ rfl
theorem cp_keep (g : Heap) (l : List Value) (c : Addr) (u : Obj) (e : g.get? c = some u) : (cp g l).get? c = some u :=
  Heap.get?_push_of_some _ ((Heap.get?_update_ne _ _ _ _ (Nat.ne_of_lt (Heap.lt_size e))).trans (Heap.get?_push_of_some _ e))
/-- sorted(l, key=f, reverse=b) -/
theorem sorted_by {H : Hp} {s : Shared} {a f : Addr} {ys : List V} {kf : V → Int × Int} {b : Bool} {Q : VK} (I : Inv X pins σ H s) (hs : SqL X.K H a ys) (hrefs : ∀ y ∈ ys, ∃ t, y = V.ref t)
    (turn : ∀ (y : V) (u : Value) (H' : Hp) (s' : Shared) (Q' : VK), y ∈ ys → RelV y u → Inv X pins σ H' s' → Same H H' →
      (∀ p, H' p = none → Q' (.ref p) (upd H' p (.tup [.int (kf y).1, .int (kf y).2]))) → codeAny (model X.prog X.w) X.A.in1.in1 (.call (.ref f) ⟨[u], []⟩) (CR CX0 X.stack X.prog X.w H' s' Q' E0) s')
    (q : ∀ (zs : List V) (p : Addr) (H' : Hp), zs.Perm ys → SrtO.Srtd (ltP kf) zs → Same H H' → H p = none → H' p = some (.lst (if b = true then zs.reverse else zs)) → Q (.ref p) H') :
    wpAny (model X.prog X.w) X.A (call (.builtin "sorted") [.ref a] [(Str.ofString "key", .ref f), (Str.ofString "reverse", .bool b)]) (EP X pins σ Q) X.xe s := by
  obtain ⟨vs, rv, hl, hz⟩ := I.list hs
  have hzv := rv.length ▸ hz
  refine call_function_entry_kw kind_sorted plain_sorted entry_sorted (ksk_s2 _ _ _) ?_
  unfold Builtin.«sorted»
  refine wpAny_bind (m := checkCount "sorted" 1 1 _) (wpAny_pure (wpAny_bind (collect_list hl.isList (wpAny_bind (wpAny_newList ?_ hzv)) hzv)))
  have hoL := cp_at s.heap vs
  have keep := cp_keep s.heap vs
  show wpAny _ _ _ _ _ { s with heap := cp s.heap vs }
  rw [cp_size]
  have I1 := I.laid (a := s.heap.objs.size + 1) (o := .lst ys) (t' := s.toks) keep (Nat.le_succ _) ⟨hz, vs, 0, rv, hoL⟩
  have hnew : H (s.heap.objs.size + 1) = none := I.hok.fresh (Nat.le_succ _)
  refine wpAny_bind (wpAny_holding (wpAny_call_entry_kw slot_list_sort ⟨_, hoL, rfl⟩ entry_list_sort ?_ (ksk_l2 _ _ _)))
  rw [ksk_t2]
  have sm : ∀ (c : Addr) (o : HO), H c = some o → upd H (s.heap.objs.size + 1) (.lst ys) c = some o := fun c o e => by
    rw [upd_ne (ne_of_none e hnew)]
    exact e
  refine tree_run (kf := kf) I1 hrefs upd_same (fun y u H' s' Q' hy ru I' k' hq => turn y u H' s' Q' hy ru I' (fun c o e => k' c o (sm c o e) (ne_of_none e hnew)) hq) fun zs H' s' I' p1 p2 p3 p4 => ⟨_, rfl, ?_⟩
  exact wpAny_pure ⟨_, rfl, .ref _, H', I', rfl, q zs _ H' p1 p2 (fun c o e => p3 c o (sm c o e) (ne_of_none e hnew)) hnew p4⟩
end
end TM

set_option Elab.async false
set_option linter.all false
set_option maxRecDepth 100000
set_option maxHeartbeats 3000000
namespace TM
open PySem PySem.Spec PyProof.Rows L2
theorem sql_ext {K : PySem.W.Frag} {H H' : Hp} {a : Addr} {ys : List V} (x : LamX.ExtN H H') (h : SqL K H a ys) : SqL K H' a ys := by
  rcases h with (d | ⟨o, d⟩) | d
  · exact .inl (.inl (x _ _ d fun _ z => by cases z))
  · exact .inl (.inr ⟨o, x _ _ d fun _ z => by cases z⟩)
  · exact .inr d
/-- sorted(e, key=lambda .., reverse=b): ys the items, kf their keys -/
def tSortLam (K : PySem.W.Frag) (T : List (Addr × PySem.Str)) (N : List PySem.Str) (te : TE) (b : Bool) (t : TA) : TE := fun σ H Q => t σ H fun vs H1 => ∃ (a : Addr) (ys : List V) (kf : V → Int × Int), vs = [.ref a] ∧ LamX.Tabs T H1 ∧ SqL K H1 a ys ∧ (∀ y ∈ ys, ∃ t, y = V.ref t) ∧
  (∀ y ∈ ys, ∀ (H' : Hp) (Q' : VK), LamX.ExtN H1 H' → (∀ p, H' p = none → Q' (.ref p) (upd H' p (.tup [.int (kf y).1, .int (kf y).2]))) → te (start N [y]) H' Q') ∧
  ∀ (zs : List V) (p : Addr) (H' : Hp), zs.Perm ys → SrtO.Srtd (ltP kf) zs → LamX.ExtN H1 H' → LamX.Tabs T H' → H' p = some (.lst (if b = true then zs.reverse else zs)) → Q (.ref p) H'
theorem boot_sorted' : bootBuiltins (Str.ofString "sorted") = some (.builtin "sorted") := by decide +kernel
theorem pe_sortLam {X : Cx} {T : List (Addr × PySem.Str)} {c P : Addr} {k j : Nat} {params : Arguments} {body e : Expr} {scope : Scope} {p lpos pos cp kp1 kp2 : Pos} {t : TA} {te : TE} {N ps : List PySem.Str} {b : Bool}
    (hg : Gl X "sorted") (hm : X.mg "sorted" = none) (ha : PA X [e] t) (TB : LamX.TabB X.base X.mg c P) (hcode : X.env.code = .ref c) (hmT : (P, X.env.qual ++ "<lambda>") ∈ T) (hu : ∀ p ∈ T, p.1 = P → p.2 = X.env.qual ++ "<lambda>")
    (hr : Room (k + 3) X.A) (S : FnScope N ps scope) (hps : ps.length = 1) (hdef : defaultsOf params X.env = ([], [])) (hnf : cloFrom X.env.cells scope.names [] = [])
    (hbind : ∀ (pm cv ctv : Value) (us : List Value), us.length = ps.length → bindArgs (PySem.W.kla_fn "<lambda>" (X.env.qual ++ "<lambda>") params body scope [] pm cv ctv) ⟨us, []⟩ = pure (ps.zip us))
    (hbody : ∀ (A : Around) (outer : List Env) (s : Shared) (H : Hp) (f c' : Addr), PE (cxOf CX0 X.prog X.w X.K X.mg X.base N (X.env.qual ++ "<lambda>") scope f (.ref c') A outer s H E0) body te)
    (he : backTo pos (starEach [e] X.env) = (false, eval e X.env) :: backTo pos (starEach [] X.env) := by rfl) (hpl : (backTo pos (starEach [e] X.env)).any (·.1) = false := by rfl) :
    PE X (.Call (.Name "sorted" p) [e] [⟨some "key", .Lambda params body scope lpos, kp1⟩, ⟨some "reverse", .Constant (.bool b) j cp, kp2⟩] pos) (tSortLam X.K T N te b t) := by
  refine ⟨fun pins s σ H Q I h => ?_⟩
  refine wpAny_Call_Name_kw (ld_blt I hg hm boot_sorted' ?_ (by decide) (by decide))
  refine PyProof.Rows.callWith_kw (thn (ha.run pos pins s σ H _ I h) fun us s1 ⟨vs, H1, I1, r1, q1⟩ => ?_) he hpl (by rfl) (by rfl)
  obtain ⟨a, ys, kf, rfl, hT, hsq, hrefs, hturn, hend⟩ := q1
  obtain rfl := Vals.ref1 r1
  have hfree : ∀ y ∈ scope.names, y.2 = .free → ∃ c, X.env.cells.lookup y.1 = some c := fun y hy z => absurd z (S.nofree y hy)
  show wpAny _ _ (evalAll ((do let v ← eval (.Lambda params body scope lpos) X.env; standAt pos; pure v) :: (backToKw pos (keywordEach [⟨some "reverse", .Constant (.bool b) j cp, kp2⟩] X.env)).map (·.2))) _ _ s1
  refine wpAny_evalAll_cons (wpAny_bind (LamX.lam_make2 I1 TB hcode hmT hu hT hdef hfree fun f c' pm ctv H2 s2 I2 eN T2 hf hfn hfr hco => wpAny_bind (wpAny_standAt (wpAny_pure ?_))))
  rw [hnf] at hf
  have nL : f ≠ X.env.locals := fun z => by
    obtain ⟨m, ⟨o, es, ep, ho, hd, _⟩, _⟩ := I2.loc
    rw [← z, hf] at ho
    cases ho
    cases hd
  have nF : f ∉ X.fs := fun z => hfr (by
    rcases I2.ok.stk with e | ⟨e, _⟩
    · rw [e]
      exact z
    · rw [e]
      unfold frs
      rw [List.filterMap_cons]
      split
      · exact z
      · exact List.mem_cons_of_mem _ z)
  have I3 : Inv X ((f, PySem.W.kla_obj "<lambda>" (X.env.qual ++ "<lambda>") params body scope [] pm c' ctv) :: pins) σ H2 s2 := I2.pins_of fun q hq => by
    rcases List.mem_cons.mp hq with rfl | hm'
    · exact ⟨hf, hfn, nL, nF, fun v z => by cases z⟩
    · exact I2.pin q (List.mem_append_right _ hm')
  refine thn ((pk_cons (nm := some "reverse") (kpos := kp2) (pe_bl (X := X) (b := b) (j := j) (pos := cp)) pk_nil).run pos _ s2 σ H2 (fun zs H' => zs = [.bl b] ∧ H' = H2) I3 ⟨rfl, rfl⟩) fun ws s3 ⟨zs, H3, I4, r3, e1, e2⟩ => ?_
  subst e1 e2
  obtain ⟨w1, rfl, e3⟩ := vals1 r3
  obtain rfl : w1 = Value.bool b := e3
  refine thn (sorted_by (kf := kf) I4 (sql_ext eN hsq) hrefs (fun y u H' s' Q' hy ru I' sm hq => ?_) (q := fun zs p H' p1 p2 p3 _ p5 => hend zs p H' p1 p2 (eN.trans (.of p3)) (T2.ext p3) p5)) fun v s4 ⟨x, H4, I5, r5, q5⟩ => ?_
  · have hob := (I'.pin _ (List.mem_append_right _ (List.mem_cons_self ..))).1
    exact lam_run (k := k) S hr.in1.in1 I'.env0.in1.in1 hob (sm _ _ hco) (hbind _ _ _ _ (by rw [hps]; rfl)) (.cons ru .nil) (by rw [hps]; rfl) (hbody _ _ _ _ _ _) (hturn y hy H' Q' (eN.trans (.of sm)) hq)
  · exact ⟨x, H4, I5.pins_of fun q hq => I5.pin q (List.mem_append_right _ (List.mem_cons_of_mem _ hq)), r5, q5⟩
end TM

set_option Elab.async false
set_option linter.all false
set_option maxRecDepth 100000
set_option maxHeartbeats 3000000
/-! ### The end of a Spec row whose defs make lambdas: the tables of their code objects are tracked -/
namespace TM
open PySem PySem.Spec PyProof.Rows L2
open PySem.W (WData Codec OpenSpec WellAll ReadsW)
/-- the tables laid over the arguments -/
def overT (ts : List Addr) (H : Hp) : Hp := fun b => if b ∈ ts then some (.tbl #[]) else H b
theorem overT_in {ts : List Addr} {H : Hp} {b : Addr} (h : b ∈ ts) : overT ts H b = some (.tbl #[]) := if_pos h
theorem overT_out {ts : List Addr} {H : Hp} {b : Addr} (h : b ∉ ts) : overT ts H b = H b := if_neg h
theorem spec_callT {P : Program} {w : World} {K : PySem.W.Frag} {mg mb : PySem.Str → Option Value} {CX : CXT} {k : Nat} {fa : Addr} {fd : FuncData} {ps : List PySem.Str} {sp : Sp} {s : Shared} {vals : List Value} {ds : List WData} {R : PySem.W.WRecords} {cl : PySem.Str → Option Addr} {d0 : WData} {cs : List (Addr × Addr)}
    (KX : K.In s.heap) (gm : s.heap.Ns mainGlobals mg) (bm : s.heap.Ns builtinsNs mb) (bb : ∀ x : PySem.Str, x ≠ "__name__" → mb x = bootBuiltins x) (lim : s.heap.NoLimit) (hg : s.gens = #[])
    (hT : ∀ p ∈ cs, s.heap.get? p.2 = some (PySem.W.tabObj #[])) (nT : ∀ p ∈ cs, K.lookup p.2 = none) (C : ∀ p ∈ cs, PySem.W.CodeHd s.heap p.1 p.2)
    (hbm : ∃ (m : Addr) (o : Obj), mg "__builtins__" = some (.ref m) ∧ m ≠ builtinsNs ∧ s.heap.get? m = some o ∧ o.cls = .type "module" ∧ o.dict = some builtinsNs ∧ o.data = .plain)
    (hwl : WellAll w.params s.heap vals ds) (hpl : plWs ds = true) (hwt : ∀ d ∈ ds, d.weight ≤ 1048576) (hr : Room k callerA)
    (F : ∀ base : Heap, K.In base → base.Ns mainGlobals mg → (∀ p ∈ cs, LamX.TabB base mg p.1 p.2) → FnOk P w K mg base CX k fa fd ps sp) (hbind : ∀ (s : Shared) (us : List Value), us.length = ps.length → BindsTo s fd ⟨us, []⟩ (ps.zip us)) (hlen : ds.length = ps.length)
    (hsp : ∀ (H0 H : Hp) (xs : List V), Same H0 H → (∀ p ∈ cs, H p.2 = some (.tbl #[])) → DwAll K H0 xs ds → sp xs H (fun v H' => Dw K H' v d0) fun _ _ _ => False)
    (hCX : ∀ H e s', CX [] H s (fun _ _ _ => False) e s' → False) :
    codeAny (model P w) callerA (.call (.ref fa) ⟨vals, []⟩) (fun r s' => ∃ u as, r = .ok (.ret u) ∧ ReadsW R cl s'.heap u d0 as ∧ OldK s.heap s'.heap ∧ s'.os = s.os ∧ AllBare s'.gens) s := by
  obtain ⟨A, hOk, ar⟩ := area_all ds vals hwl hpl hwt
  have isT : ∀ b, b ∈ cs.map (·.2) → s.heap.get? b = some (PySem.W.tabObj #[]) := fun b m => by
    obtain ⟨q, hq, rfl⟩ := List.mem_map.mp m
    exact hT q hq
  have memT : ∀ q ∈ cs, q.2 ∈ cs.map (·.2) := fun q hq => List.mem_map.mpr ⟨q, hq, rfl⟩
  -- what is tracked of the arguments is locked, and stands in no table
  have arg : ∀ b u, argH K s.heap A b = some u → b ∉ cs.map (·.2) ∧ K.lookup b = none ∧ ∃ o v, u = .frz o v ∧ s.heap.get? b = some o ∧ ∃ l n, o.data = .seq l n := fun b u q => by
    obtain ⟨nk, vs, _, _, h3⟩ := argH_is ar q
    have nt : ∀ (c : Value), s.heap.get? b = some { cls := c, data := .seq vs.toArray } → b ∉ cs.map (·.2) := fun c e m => by
      rw [isT b m] at e
      cases e
    rcases h3 with ⟨e, r⟩ | ⟨e, r⟩
    · exact ⟨nt _ e, nk, _, _, r, e, _, _, rfl⟩
    · exact ⟨nt _ e, nk, _, _, r, e, _, _, rfl⟩
  have same : Same (argH K s.heap A) (overT (cs.map (·.2)) (argH K s.heap A)) := fun b u q => (overT_out (arg b u q).1).trans q
  have tabs : ∀ p ∈ cs, overT (cs.map (·.2)) (argH K s.heap A) p.2 = some (.tbl #[]) := fun p hp => overT_in (memT p hp)
  have dwa := dw_all KX ar ds vals hwl hpl hOk
  have hok0 : HOk P w (argH K s.heap A) s.heap := argH_ok ar
  have start := hsp _ _ _ same tabs dwa
  generalize argH K s.heap A = H0 at *
  have track : ∀ b u, overT (cs.map (·.2)) H0 b = some u → (b ∈ cs.map (·.2) ∧ u = .tbl #[]) ∨ (b ∉ cs.map (·.2) ∧ H0 b = some u) := fun b u q => by
    by_cases m : b ∈ cs.map (·.2)
    · rw [overT_in m] at q
      exact .inl ⟨m, (Option.some.inj q).symm⟩
    · rw [overT_out m] at q
      exact .inr ⟨m, q⟩
  have hok : HOk P w (overT (cs.map (·.2)) H0) s.heap := fun b u q => by
    rcases track b u q with ⟨m, rfl⟩ | ⟨_, z⟩
    · exact isT b m
    · exact (hok0 b u z).stay (fun _ _ _ e => e) (fun c e => same c _ e) fun c xs e => same c _ e
  -- what is no list and no table isn't tracked
  have off : ∀ {b : Addr} {o : Obj}, s.heap.get? b = some o → (∀ l n, o.data ≠ .seq l n) → o.data ≠ .fields #[] → overT (cs.map (·.2)) H0 b = none := fun {b o} e h1 h2 => by
    cases q : overT (cs.map (·.2)) H0 b with
    | none => rfl
    | some u =>
      rcases track b u q with ⟨m, _⟩ | ⟨_, z⟩
      · rw [isT b m] at e
        cases e
        exact (h2 rfl).elim
      · obtain ⟨_, _, o', _, _, e', l, n, dl⟩ := arg b u z
        rw [e'] at e
        cases e
        exact (h1 l n dl).elim
  have offD : ∀ {b : Addr} {o : Obj} {es : Array DictEntry} {ep : Nat}, s.heap.get? b = some o → o.data = .dict es ep → overT (cs.map (·.2)) H0 b = none := fun e d =>
    off e (fun l n z => by rw [d] at z; cases z) fun z => by rw [d] at z; cases z
  have stay : ∀ {b : Addr} {m : PySem.Str → Option Value}, s.heap.Ns b m → (hidT s.heap (overT (cs.map (·.2)) H0)).Ns b m := fun ⟨o, es, ep, e, d, r⟩ => ⟨o, es, ep, hidT_get e (offD e d), d, r⟩
  have KB : K.In (hidT s.heap (overT (cs.map (·.2)) H0)) := fun b o e => hidT_get (KX b o e) (by
    cases q : overT (cs.map (·.2)) H0 b with
    | none => rfl
    | some u =>
      rcases track b u q with ⟨m, _⟩ | ⟨_, z⟩
      · obtain ⟨p, hp, ep⟩ := List.mem_map.mp m
        rw [← ep, nT p hp] at e
        cases e
      · rw [(arg b u z).2.1] at e
        cases e)
  have TB : ∀ p ∈ cs, LamX.TabB (hidT s.heap (overT (cs.map (·.2)) H0)) mg p.1 p.2 := fun p hp => by
    refine ⟨?_, ?_, fun z => ?_⟩
    · obtain ⟨o, us, f1, f2, f3, f4, f5, f6, f7, e, r1, r2, r3, r⟩ := C p hp
      refine ⟨o, us, f1, f2, f3, f4, f5, f6, f7, hidT_get e (off e (fun l n z => by rw [r2] at z; cases z) fun z => ?_), r1, r2, r3, r⟩
      rw [r2] at z
      cases z
      simp at r3
    · obtain ⟨m, o, b1, b2, b3, b4, b5, b6⟩ := hbm
      refine ⟨m, o, b1, b2, fun q => ?_, fun q => ?_, hidT_get b3 (off b3 (fun l n z => by rw [b6] at z; cases z) fun z => by rw [b6] at z; cases z), b4, b5, b6⟩
      · obtain ⟨o2, es, ep, e, d, _⟩ := gm
        rw [q, e] at b3
        cases b3
        rw [d] at b6
        cases b6
      · rw [q, hT p hp] at b3
        cases b3
        cases b6
    · obtain ⟨o2, es, ep, e, d, _⟩ := gm
      rw [z, hT p hp] at e
      cases e
      cases d
  have MM : L2.Mod K mg (hidT s.heap (overT (cs.map (·.2)) H0)) := ⟨KB, stay gm, ⟨mb, stay bm, bb⟩, let ⟨mc, l1, l2⟩ := lim; ⟨mc, stay l1, l2⟩⟩
  have e0 : Env0 P w K mg (hidT s.heap (overT (cs.map (·.2)) H0)) callerA [] s (overT (cs.map (·.2)) H0) := ⟨rfl, MM, fun b o e => of_hidT e, Nat.le_of_eq (hidT_size _ _), trivial, (fun b z => nomatch z), hok, .of_eq hg⟩
  refine codeAny_mono ((F _ KB (stay gm) TB).run callerA [] s _ ⟨vals, []⟩ vals (vals.map toV) _ _ hr e0 (hbind s vals (by rw [wellAll_len hwl]; exact hlen)) (vals_toV hOk) start) fun r s' x => ?_
  cases r with
  | error e => exact (hCX _ e s' x).elim
  | ok fl =>
    cases fl with
    | next => exact absurd x id
    | brk => exact absurd x id
    | cont => exact absurd x id
    | ret u =>
      obtain ⟨v, H', os, bare, un, hok', rv, q⟩ := x
      have kept : ∀ b o, b ∉ cs.map (·.2) → s.heap.get? b = some o → s'.heap.get? b = some o := fun b o nm e => by
        cases z : overT (cs.map (·.2)) H0 b with
        | none => exact un.keep b o e z (fun y => nomatch y) (fun y => nomatch y)
        | some y =>
          rcases track b y z with ⟨m, _⟩ | ⟨_, z0⟩
          · exact absurd m nm
          · obtain ⟨_, _, o', v', rfl, e', _⟩ := arg b y z0
            rw [e'] at e
            cases e
            exact (hok' b _ (un.frzs b _ _ z)).1
      have grown : ∀ p ∈ cs, ∃ more : Array Value, s'.heap.get? p.2 = some (PySem.W.tabObj more) := fun p hp => by
        obtain ⟨more, z⟩ := un.tbls p.2 #[] (tabs p hp)
        exact ⟨_, hok' p.2 _ z⟩
      have KX' : K.In s'.heap := fun b o e => kept b o (fun m => by
        obtain ⟨p, hp, ep⟩ := List.mem_map.mp m
        rw [← ep, nT p hp] at e
        cases e) (KX b o e)
      obtain ⟨as, hrd⟩ := Dw.reads (R := R) (cl := cl) hok' KX' d0 v u q rv
      refine ⟨u, as, rfl, hrd, ⟨fun b o e => ?_, fun b o e => ?_⟩, os, bare⟩
      · by_cases m : b ∈ cs.map (·.2)
        · obtain ⟨p, hp, ep⟩ := List.mem_map.mp m
          obtain ⟨mo, hmo⟩ := grown p hp
          rw [← ep] at e ⊢
          rw [hT p hp] at e
          cases e
          exact .inr (.inl ⟨((C p hp).tab (hT p hp)).isCodeTable, rfl, #[], mo, rfl, by rw [Array.empty_append]; exact hmo⟩)
        · exact .inl (kept b o m e)
      · by_cases m : b ∈ cs.map (·.2)
        · obtain ⟨p, hp, ep⟩ := List.mem_map.mp m
          obtain ⟨mo, hmo⟩ := grown p hp
          exact ⟨_, ep ▸ hmo⟩
        · exact ⟨o, kept b o m e⟩
/-- the goal that the head leaves, from the promise of the row's def -/
theorem walk_specT {r : OpenSpec} {k : Nat} {q : Program} {loose : List PySem.Str} {XP : (PySem.Str → Option Value) → Heap → Prop} {YP : World → Heap → Prop} {d : DefRec} {K : Params → PySem.W.Frag} {CX : CXT} {ps : List PySem.Str}
    (hwell : r.wellSaid = true) (hlen : r.args.length = ps.length) (hr : Room k callerA) (hY : ∀ (w : World) (h : Heap), YP w h → (K w.params).In h)
    (F : ∀ (w : World) (s0 : Shared) (mg mb : PySem.Str → Option Value) (fa : Addr) (h : Heap), PySem.W.Ground q loose [] XP w s0 mg mb h → YP w h → (K w.params).In h → h.Ns mainGlobals mg → mg d.name = some (.ref fa) →
      ∃ (fd : FuncData) (cs : List (Addr × Addr)) (sp : Sp), (∀ p ∈ cs, h.get? p.2 = some (PySem.W.tabObj #[])) ∧ (∀ p ∈ cs, (K w.params).lookup p.2 = none) ∧ (∀ p ∈ cs, PySem.W.CodeHd h p.1 p.2) ∧
        (∀ (s : Shared) (us : List Value), us.length = ps.length → BindsTo s fd ⟨us, []⟩ (ps.zip us)) ∧
        (∀ (H0 H : Hp) (xs : List V) (a : Codec.denoteAll r.args), Same H0 H → (∀ p ∈ cs, H p.2 = some (.tbl #[])) → Codec.withinAll r.args a = true → Codec.app r.args r.asked a = true → DwAll (K w.params) H0 xs (Codec.encAll r.args a) →
          sp xs H (fun v H' => Dw (K w.params) H' v (r.ret.enc (Codec.app r.args r.f a))) fun _ _ _ => False) ∧
        ∀ base : Heap, (K w.params).In base → base.Ns mainGlobals mg → (∀ p ∈ cs, LamX.TabB base mg p.1 p.2) → FnOk r.prog w (K w.params) mg base CX k fa fd ps sp)
    (hCX : ∀ (H : Hp) (z : Shared) (e : Value) (z' : Shared), CX [] H z (fun _ _ _ => False) e z' → False) :
    PySem.W.WalkOS q loose XP YP r d [] fun f vs => PySem.call f vs := by
  intro w s0 s1 mg mb G Y fa o pm cd doc dV kV _ _ _ _ hmg hg args vals as hpre hlay _ hwl _
  obtain ⟨a, d1, d2⟩ := PySem.W.os_pre_some hpre
  obtain ⟨d3, hwi⟩ := Codec.encAll_of_decAll r.args args a d1
  subst d3
  have KX := hY w _ Y
  obtain ⟨fd, cs, sp, hT, nT, C, hb, hsp, hF⟩ := F w s0 mg mb fa _ G Y KX G.T.g hmg
  refine PySem.W.enter_call (codeAny_mono (spec_callT (R := []) (cl := classAt s0.heap) (d0 := r.ret.enc (Codec.app r.args r.f a)) KX G.T.g G.T.b G.T.builtins G.T.nolimit hg hT nT C G.T.bmain hwl (pl_encAll _ _) (layable_weight hlay) hr hF hb (by rw [encAll_len]; exact hlen)
    (fun H0 H xs sm ht hS => hsp H0 H xs a sm ht hwi d2 hS) fun H e s' => hCX H s1 e s') fun r' s' hq => ?_)
  obtain ⟨u, bs, rfl, r1, r2, r3, r4⟩ := hq
  exact ⟨.inl ⟨u, _, bs, rfl, fun _ => rfl, r1, (OpenSpec.post_iff hwell hwi _ _).mpr rfl, fun z => absurd (show false = true from z) Bool.false_ne_true⟩, r2, r3, r4⟩
end TM

set_option Elab.async false
set_option linter.all false
set_option maxRecDepth 100000
set_option maxHeartbeats 3000000
/-! ### list(reversed(l)) -/
namespace TM
open PySem PySem.Spec PyProof.Rows L2
section
variable {prog : Program} {w : World} {A : Around} {E : Value → Shared → Prop} {s : Shared}
/-- how a built-in's tree ends -/
abbrev Fins (M : Model) (A : Around) (R : Result → Shared → Prop) : PySem.Fin → Shared → Prop := fun fin z => match fin with
  | .done f => R (.ok f) z
  | .again c => c.quiet = true ∧ codeAny M A c R z
/-- a list takes in what a reversed one gives -/
theorem extend_rev {R : Result → Shared → Prop} {it l S : Addr} {items : Array Value} {c0 : Nat} (hh : A.handled = none) (hit : s.heap.IsRevIter it l ((items.size : Int) - 1)) (hl : s.heap.IsList l items) (hne : l ≠ it) (hn : items.size ≤ sizeLine)
    (hSi : S ≠ it) (hSl : S ≠ l) (hS : s.heap.get? S = some { cls := .type "list", data := .seq #[] c0 })
    (hR : ∀ h' tk acc c1, (∀ b o, b ≠ S → b ≠ it → s.heap.get? b = some o → h'.get? b = some o) → h'.get? S = some { cls := .type "list", dict := none, data := .seq acc c1, slots := #[] } →
      ItemsOf (fun i v => items[items.size - 1 - i]? = some v) acc items.size → R (.ok (.ret .none)) { s with heap := h', toks := tk }) :
    wpAny (model prog w) A.in1 (Builtin.List.listExtendWith (.ref S) (.ref it) .none)
      (Fins (model prog w) A R) (fun er z => R (.error er) z) s := by
  have walk := (Walks.listRev (prog := prog) (w := w) (A := A.in1) hh it l hne items).toS
  have hT : s.TypeIs (.ref it) "list_reverseiterator" := hit.typeIs
  have sr : Builtin.List.listSameRef (.ref S) (.ref it) = false := by simp [Builtin.List.listSameRef, hSi]
  have zero : ((items.size : Nat) : Int) - 1 - ((0 : Nat) : Int) = (items.size : Int) - 1 := by omega
  unfold Builtin.List.listExtendWith; refine wpAny_bind (wpAny_typeOf hT ?_)
  rw [if_neg (by rw [sr]; decide)]
  refine wpAny_bind (wpAny_pyIter_revIter hit (wpAny_bind (wpAny_holding ?_)))
  unfold Builtin.List.listLengthHint; refine wpAny_bind (wpAny_specialOf hT RT.nolen_lri ?_)
  show wpAny _ A.in1 (specialOf (Value.ref it) (Str.ofString "__length_hint__") >>= _) _ _ _; refine wpAny_bind (wpAny_specialOf hT RT.hint_lri ?_)
  generalize hid : ("list_reverseiterator.__length_hint__" : String) = id1
  wp_delta
  rw [show splitId id1 = some ("list_reverseiterator", "__length_hint__") from by subst hid; decide +kernel]
  subst hid
  refine wpAny_bind (wpAny_isInstance (b := true) hT (by rw [isSubtype_type]; kernel_rfl) (wpAny_pure ?_))
  rw [if_neg (by decide)]
  refine wpAny_pure ⟨plainId_quiet F.plain_extend_loop _, codeAny_extend_loopS walk hn S (by simp only [List.mem_cons, List.not_mem_nil, or_false, not_or]; exact ⟨hSi, hSl⟩) _ items.size 0 _ #[] _ rfl (Nat.zero_le _) ⟨Nat.zero_le _, by rw [zero]; exact hit, hl⟩ hS (ItemsOf.nil _) fun s2 acc c1 hm hS' hacc => ?_⟩
  rw [Moved.eq_with hm]
  refine hR s2.heap s2.toks acc c1 (fun b o n1 n2 e => hm.heap b o (fun z => ?_) e) hS' hacc
  rcases List.mem_cons.mp z with q | q
  · exact n1 q
  · exact n2 (List.mem_singleton.mp q)
theorem init_rev {R : Result → Shared → Prop} {it l S : Addr} {items : Array Value} (hh : A.handled = none) (hit : s.heap.IsRevIter it l ((items.size : Int) - 1)) (hl : s.heap.IsList l items) (hne : l ≠ it) (hn : items.size ≤ sizeLine)
    (hSi : S ≠ it) (hSl : S ≠ l) (hS : s.heap.get? S = some { cls := .type "list", data := .seq #[] })
    (hR : ∀ h' tk acc c1, (∀ b o, b ≠ S → b ≠ it → s.heap.get? b = some o → h'.get? b = some o) → h'.get? S = some { cls := .type "list", dict := none, data := .seq acc c1, slots := #[] } →
      ItemsOf (fun i v => items[items.size - 1 - i]? = some v) acc items.size → R (.ok (.ret .none)) { s with heap := h', toks := tk }) :
    wpAny (model prog w) A.in1 (Builtin.«list.__init__» ⟨[.ref S, .ref it], []⟩) (Fins (model prog w) A R) (fun er z => R (.error er) z) s := by
  have oth : ∀ b o, b ≠ S → s.heap.get? b = some o → (s.heap.update S (Obj.mapSeq fun _ => (#[] : Array Value))).get? b = some o := fun b o n e => (Heap.get?_update_other _ _ n.symm).trans e
  have hS2 := Heap.get?_update_self (Obj.mapSeq fun _ => (#[] : Array Value)) hS rfl
  obtain ⟨ol, hol, hlc⟩ := id hl
  show wpAny _ _ (do let old ← Builtin.List.listItems (.ref S); Builtin.List.listUpdate (.ref S) (fun _ => #[]); letGo old.toList.reverse; Builtin.List.listExtendWith (.ref S) (.ref it) .none) _ _ s
  refine wpAny_bind (listItems_at hS rfl (wpAny_bind (listUpdate_at hS rfl (wpAny_bind (wpAny_letGo ?_)) (Nat.zero_le _) (Nat.zero_le _))))
  exact extend_rev (s := { s with heap := s.heap.update S (Obj.mapSeq fun _ => (#[] : Array Value)) }) hh (hit.at fun o e => oth it o hSi.symm e) ⟨ol, oth l ol hSl.symm hol, hlc⟩ hne hn hSi hSl hS2
    fun h' tk acc c1 k1 k2 k3 => hR h' tk acc c1 (fun b o n1 n2 e => k1 b o n1 n2 (oth b o n1 e)) k2 k3
theorem list_rev {Q : Value → Shared → Prop} {it l : Addr} {items : Array Value} (hh : A.handled = none) (hit : s.heap.IsRevIter it l ((items.size : Int) - 1)) (hl : s.heap.IsList l items) (hne : l ≠ it) (hn : items.size ≤ sizeLine)
    (hQ : ∀ h' tk acc c1, (∀ b o, b ≠ it → s.heap.get? b = some o → h'.get? b = some o) → h'.get? s.heap.objs.size = some { cls := .type "list", dict := none, data := .seq acc c1, slots := #[] } →
      ItemsOf (fun i v => items[items.size - 1 - i]? = some v) acc items.size → Q (.ref s.heap.objs.size) { s with heap := h', toks := tk }) :
    wpAny (model prog w) A (call (.type "list") [Value.ref it]) Q E s := by
  refine callType_codes (Q₁ := fun v z => v = .ref s.heap.objs.size ∧ z = { s with heap := s.heap.push { cls := .type "list", data := .seq #[] } }) F.called_list (F.typeCall_list_1 _) F.entry_list_init (code_list_new _ ⟨rfl, rfl⟩) fun v z hz => ?_
  obtain ⟨rfl, rfl⟩ := hz
  have hS := Heap.get?_push_size s.heap (o := { cls := .type "list", data := .seq #[] }) rfl
  obtain ⟨oi, hoi, _⟩ := id hit
  obtain ⟨ol, hol, _⟩ := id hl
  refine ⟨⟨_, hS, rfl⟩, F.args_list_init_2 _ _, init_rev (s := { s with heap := s.heap.push { cls := .type "list", data := .seq #[] } }) (A := A.in1) hh (hit.at fun o e => Heap.get?_push_of_some _ e) (hl.push _) hne hn (Nat.ne_of_gt (Heap.lt_size hoi)) (Nat.ne_of_gt (Heap.lt_size hol)) hS fun h' tk acc c1 k1 k2 k3 => ?_⟩
  exact ⟨rfl, hQ h' tk acc c1 (fun b o n e => k1 b o (Nat.ne_of_lt (Heap.lt_size e)) n (Heap.get?_push_of_some _ e)) k2 k3⟩
end
/-- list(reversed(x)), x a list: a new list -/
def tLstRev (K : PySem.W.Frag) (te : TE) : TE := fun σ H Q => te σ H fun v H1 => ∃ (a : Addr) (xs : List V), v = .ref a ∧ SqL K H1 a xs ∧ ∀ q, H1 q = none → Q (.ref q) (upd H1 q (.lst xs.reverse))
theorem pe_lstRev {X : Cx} {e : Expr} {te : TE} {p p2 pos pos2 : Pos} (hc : X.calm = true) (hg : Gl X "list") (hm : X.mg "list" = none) (hg2 : Gl X "reversed") (hm2 : X.mg "reversed" = none) (he : PE X e te)
    (hs : starEach [e] X.env = (false, eval e X.env) :: starEach [] X.env := by rfl) (hs2 : starEach [.Call (.Name "reversed" p2) [e] [] pos2] X.env = (false, eval (.Call (.Name "reversed" p2) [e] [] pos2) X.env) :: starEach [] X.env := by rfl) :
    PE X (.Call (.Name "list" p) [.Call (.Name "reversed" p2) [e] [] pos2] [] pos) (tLstRev X.K te) := by
  refine ⟨fun pins s σ H Q I h => ?_⟩
  refine Call_ (ld_blt I hg hm boot_list (PyProof.Rows.callWith_type1 (args_cons (Call_ (ld_blt I hg2 hm2 PyProof.Rows.boot_reversed (PyProof.Rows.callWith_type1 (args_cons (thn (he.run pins s σ H _ I h) fun u z ⟨v, G, J, r, q⟩ => args_nil ?_) hs) hs rfl))) hs2) hs2 rfl))
  obtain ⟨a, xs, ev, hq, q⟩ := q
  subst ev
  obtain rfl : u = Value.ref a := r
  obtain ⟨its, rv, pl, hz⟩ := J.list hq
  have hl := pl.isList
  refine call_reversed_list hl (args_nil ?_)
  have J2 : Inv X pins σ G { z with heap := z.heap.push (revObj a ((its.toArray.size : Int) - 1)) } := J.kept (t' := z.toks) fun b o y => Heap.get?_push_of_some _ y
  have fp := J.fpOk (H' := G) (b := z.heap.objs.size) (Nat.le_refl _) (J.hok.fresh (Nat.le_refl _))
  obtain ⟨ol, hol, _⟩ := id hl
  have hn : its.toArray.size ≤ sizeLine := by
    rw [List.size_toArray, ← rv.length]
    exact hz
  have hsz : (z.heap.push (revObj a ((its.toArray.size : Int) - 1))).objs.size = z.heap.objs.size + 1 := Heap.size_push ..
  refine list_rev (s := { z with heap := z.heap.push (revObj a ((its.toArray.size : Int) - 1)) }) (J.ok.hd hc) ⟨_, Heap.get?_push_size _ rfl, rfl, rfl⟩ (hl.push _) (Nat.ne_of_lt (Heap.lt_size hol)) hn fun h' tk acc c1 k1 k2 k3 => ?_
  have new := J2.hok.fresh (Nat.le_refl _)
  refine ⟨.ref _, upd G _ (.lst xs.reverse), J2.turnedNew (t' := tk) (ch := [z.heap.objs.size]) (T := (z.heap.push (revObj a ((its.toArray.size : Int) - 1))).objs.size) (fun b o n e => k1 b o (fun y => n (by rw [y]; exact List.mem_singleton.mpr rfl)) e) (fun b m => by rw [List.mem_singleton.mp m]; exact fp) (Nat.le_refl _) ?_, rfl, q _ new⟩
  exact ⟨by rw [List.length_reverse]; exact hz, acc.toList, c1, RT.vals_rev rv k3, by rw [Array.toArray_toList]; exact k2⟩
end TM

set_option Elab.async false
namespace TM
/-! ### The calls of a list, as the specification has them -/
def encS (s : List Nat) : List Nat := s.length :: s
def encQ (q : Ut03.Ask) : List Nat := q.ahead :: q.behind :: q.client :: encS q.source
def encQs (l : List Ut03.Ask) : List Nat := l.flatMap encQ
def enc : Ut03.Call → List Nat
  | .put q t => 0 :: (encQ q ++ encS t)
  | .take n => [1, n]
  | .find k q => 2 :: k :: encQ q
  | .best q => 3 :: encQ q
  | .way n s => 4 :: n :: encS s
  | .with_ w => [5, w]
  | .fill k l => 6 :: k :: l.length :: encS (encQs l)
  | .entry n => [7, n]
  | .count => [8]
  | .undo => [9]
  | .near a b => 10 :: (encS a ++ encS b)
/-- how long what is handed in may be -/
def sizes : Ut03.Call → Prop
  | .put q t => q.source.length ≤ 25 ∧ t.length ≤ 25
  | .find _ q => q.source.length ≤ 25
  | .best q => q.source.length ≤ 25
  | .way _ s => s.length ≤ 25
  | .fill _ l => (encQs l).length ≤ 300
  | .near a b => a.length ≤ 25 ∧ b.length ≤ 25
  | _ => True
def playedC : Ut03.St → List Ut03.Call → List (List Int)
  | _, [] => []
  | s, c :: r => (Ut03.step s c).2 :: playedC (Ut03.step s c).1 r
def nn (l : List Int) : List Nat := l.map Int.toNat
theorem nn_len (l : List Int) : (nn l).length = l.length := List.length_map _
theorem nn_app (l m : List Int) : nn (l ++ m) = nn l ++ nn m := List.map_append
theorem sentIn_enc (s r : List Nat) : Ut03Neutral.sentIn (encS s ++ r) = some (s, r) := by
  show (if (s ++ r).length < s.length then none else some ((s ++ r).take s.length, (s ++ r).drop s.length)) = _
  rw [if_neg (by rw [List.length_append]; omega), List.take_left, List.drop_left]
theorem askIn_enc (q : Ut03.Ask) (r : List Nat) : Ut03Neutral.askIn (encQ q ++ r) = some (q, r) := by
  show (Ut03Neutral.sentIn (encS q.source ++ r)).map (fun x => ((⟨x.1, q.ahead, q.behind, q.client⟩ : Ut03.Ask), x.2)) = _
  rw [sentIn_enc]
  rfl
theorem sentIn_inv {l s r : List Nat} (h : Ut03Neutral.sentIn l = some (s, r)) : l = encS s ++ r := by
  cases l with
  | nil => cases h
  | cons n l =>
    have h' : (if l.length < n then none else some (l.take n, l.drop n)) = some (s, r) := h
    by_cases c : l.length < n
    · rw [if_pos c] at h'
      cases h'
    · rw [if_neg c] at h'
      obtain ⟨d1, d2⟩ := Prod.mk.inj (Option.some.inj h')
      subst d1 d2
      show n :: l = (l.take n).length :: (l.take n ++ l.drop n)
      rw [List.take_append_drop, List.length_take, Nat.min_eq_left (by omega)]
theorem askIn_inv {l : List Nat} {q : Ut03.Ask} {r : List Nat} (h : Ut03Neutral.askIn l = some (q, r)) : l = encQ q ++ r := by
  match l, h with
  | a :: b :: c :: l, h =>
    have h' : (Ut03Neutral.sentIn l).map (fun x => ((⟨x.1, a, b, c⟩ : Ut03.Ask), x.2)) = some (q, r) := h
    cases e : Ut03Neutral.sentIn l with
    | none =>
      rw [e] at h'
      cases h'
    | some x =>
      obtain ⟨s, t⟩ := x
      rw [e] at h'
      obtain ⟨d1, d2⟩ := Prod.mk.inj (Option.some.inj h')
      subst d1 d2
      rw [sentIn_inv e]
      rfl
theorem asksIn_inv : ∀ (k : Nat) (l : List Nat) (qs : List Ut03.Ask) (r : List Nat), Ut03Neutral.asksIn k l = some (qs, r) → l = encQs qs ++ r ∧ qs.length = k
  | 0, l, qs, r, h => by
    obtain ⟨e1, e2⟩ := Prod.mk.inj (Option.some.inj (show some (([] : List Ut03.Ask), l) = some (qs, r) from h))
    subst e1 e2
    exact ⟨rfl, rfl⟩
  | k + 1, l, qs, r, h => by
    have h' : ((Ut03Neutral.askIn l).bind fun x => (Ut03Neutral.asksIn k x.2).map fun y => (x.1 :: y.1, y.2)) = some (qs, r) := h
    cases e : Ut03Neutral.askIn l with
    | none =>
      rw [e] at h'
      cases h'
    | some x =>
      obtain ⟨q, t⟩ := x
      rw [e] at h'
      have h2 : ((Ut03Neutral.asksIn k t).map fun y => (q :: y.1, y.2)) = some (qs, r) := h'
      cases e2 : Ut03Neutral.asksIn k t with
      | none =>
        rw [e2] at h2
        cases h2
      | some y =>
        obtain ⟨qs', r'⟩ := y
        rw [e2] at h2
        obtain ⟨e3, e4⟩ := Prod.mk.inj (Option.some.inj h2)
        subst e3 e4
        obtain ⟨i1, i2⟩ := asksIn_inv k t qs' r' e2
        refine ⟨?_, by rw [List.length_cons, i2]⟩
        rw [askIn_inv e, i1]
        show encQ q ++ (encQs qs' ++ r') = (encQ q ++ encQs qs') ++ r'
        rw [List.append_assoc]
theorem callIn_put (q : Ut03.Ask) (t : List Nat) : Ut03Neutral.callIn (enc (.put q t)) = some (.put q t) := by
  show ((Ut03Neutral.askIn (encQ q ++ encS t)).bind fun x => (Ut03Neutral.sentIn x.2).bind fun y => if y.2 = [] then some (Ut03.Call.put x.1 y.1) else none) = _
  rw [askIn_enc]
  have e := sentIn_enc t []
  rw [List.append_nil] at e
  show ((Ut03Neutral.sentIn (encS t)).bind fun y => if y.2 = [] then some (Ut03.Call.put q y.1) else none) = _
  rw [e]
  rfl
theorem callIn_find (k : Nat) (q : Ut03.Ask) : Ut03Neutral.callIn (enc (.find k q)) = some (.find k q) := by
  have e := askIn_enc q []
  rw [List.append_nil] at e
  show ((Ut03Neutral.askIn (encQ q)).bind fun x => if x.2 = [] then some (Ut03.Call.find k x.1) else none) = _
  rw [e]
  rfl
theorem callIn_best (q : Ut03.Ask) : Ut03Neutral.callIn (enc (.best q)) = some (.best q) := by
  have e := askIn_enc q []
  rw [List.append_nil] at e
  show ((Ut03Neutral.askIn (encQ q)).bind fun x => if x.2 = [] then some (Ut03.Call.best x.1) else none) = _
  rw [e]
  rfl
theorem callIn_way (n : Nat) (s : List Nat) : Ut03Neutral.callIn (enc (.way n s)) = some (.way n s) := by
  have e := sentIn_enc s []
  rw [List.append_nil] at e
  show ((Ut03Neutral.sentIn (encS s)).bind fun x => if x.2 = [] then some (Ut03.Call.way n x.1) else none) = _
  rw [e]
  rfl
theorem callIn_near (a b : List Nat) : Ut03Neutral.callIn (enc (.near a b)) = some (.near a b) := by
  have e := sentIn_enc b []
  rw [List.append_nil] at e
  show ((Ut03Neutral.sentIn (encS a ++ encS b)).bind fun x => (Ut03Neutral.sentIn x.2).bind fun y => if y.2 = [] then some (Ut03.Call.near x.1 y.1) else none) = _
  rw [sentIn_enc]
  show ((Ut03Neutral.sentIn (encS b)).bind fun y => if y.2 = [] then some (Ut03.Call.near a y.1) else none) = _
  rw [e]
  rfl
theorem callOf_nat {l : List Int} {x : Ut03.Call} (h : Ut03Neutral.callOf l = some x) : (∀ z ∈ l, 0 ≤ z) ∧ Ut03Neutral.callIn (nn l) = some x := by
  unfold Ut03Neutral.callOf at h
  by_cases c : l.all Ut03Neutral.nat = false
  · rw [if_pos c] at h
    cases h
  · rw [if_neg c] at h
    refine ⟨fun z hz => ?_, h⟩
    have c' : l.all Ut03Neutral.nat = true := by simpa using c
    have q := List.all_eq_true.mp c' z hz
    unfold Ut03Neutral.nat at q
    rw [Bool.and_eq_true] at q
    exact of_decide_eq_true q.1
theorem nn_row (r : List Int) : nn (PyFlat.putRow r) = encS (nn r) := by
  show (r.length : Int).toNat :: nn r = (nn r).length :: nn r
  rw [nn_len]
  rfl
theorem shape_is {p : Int} {n k : Nat} (h : PyUt03.shape p = some (n, k)) : (p = 0 ∧ n = 3 ∧ k = 2) ∨ (p = 1 ∧ n = 1 ∧ k = 0) ∨ (p = 2 ∧ n = 4 ∧ k = 1) ∨ (p = 3 ∧ n = 3 ∧ k = 1) ∨ (p = 4 ∧ n = 1 ∧ k = 1) ∨ (p = 5 ∧ n = 1 ∧ k = 0) ∨
    (p = 6 ∧ n = 2 ∧ k = 1) ∨ (p = 7 ∧ n = 1 ∧ k = 0) ∨ (p = 8 ∧ n = 0 ∧ k = 0) ∨ (p = 9 ∧ n = 0 ∧ k = 0) ∨ (p = 10 ∧ n = 0 ∧ k = 2) := by
  unfold PyUt03.shape at h
  by_cases c0 : p = 0
  · rw [if_pos c0] at h
    obtain ⟨e1, e2⟩ := Prod.mk.inj (Option.some.inj h)
    exact .inl ⟨c0, e1.symm, e2.symm⟩
  rw [if_neg c0] at h
  by_cases c1 : p = 1
  · rw [if_pos c1] at h
    obtain ⟨e1, e2⟩ := Prod.mk.inj (Option.some.inj h)
    exact .inr (.inl ⟨c1, e1.symm, e2.symm⟩)
  rw [if_neg c1] at h
  by_cases c2 : p = 2
  · rw [if_pos c2] at h
    obtain ⟨e1, e2⟩ := Prod.mk.inj (Option.some.inj h)
    exact .inr (.inr (.inl ⟨c2, e1.symm, e2.symm⟩))
  rw [if_neg c2] at h
  by_cases c3 : p = 3
  · rw [if_pos c3] at h
    obtain ⟨e1, e2⟩ := Prod.mk.inj (Option.some.inj h)
    exact .inr (.inr (.inr (.inl ⟨c3, e1.symm, e2.symm⟩)))
  rw [if_neg c3] at h
  by_cases c4 : p = 4
  · rw [if_pos c4] at h
    obtain ⟨e1, e2⟩ := Prod.mk.inj (Option.some.inj h)
    exact .inr (.inr (.inr (.inr (.inl ⟨c4, e1.symm, e2.symm⟩))))
  rw [if_neg c4] at h
  by_cases c5 : p = 5
  · rw [if_pos c5] at h
    obtain ⟨e1, e2⟩ := Prod.mk.inj (Option.some.inj h)
    exact .inr (.inr (.inr (.inr (.inr (.inl ⟨c5, e1.symm, e2.symm⟩)))))
  rw [if_neg c5] at h
  by_cases c6 : p = 6
  · rw [if_pos c6] at h
    obtain ⟨e1, e2⟩ := Prod.mk.inj (Option.some.inj h)
    exact .inr (.inr (.inr (.inr (.inr (.inr (.inl ⟨c6, e1.symm, e2.symm⟩))))))
  rw [if_neg c6] at h
  by_cases c7 : p = 7
  · rw [if_pos c7] at h
    obtain ⟨e1, e2⟩ := Prod.mk.inj (Option.some.inj h)
    exact .inr (.inr (.inr (.inr (.inr (.inr (.inr (.inl ⟨c7, e1.symm, e2.symm⟩)))))))
  rw [if_neg c7] at h
  by_cases c8 : p = 8
  · rw [if_pos c8] at h
    obtain ⟨e1, e2⟩ := Prod.mk.inj (Option.some.inj h)
    exact .inr (.inr (.inr (.inr (.inr (.inr (.inr (.inr (.inl ⟨c8, e1.symm, e2.symm⟩))))))))
  rw [if_neg c8] at h
  by_cases c9 : p = 9
  · rw [if_pos c9] at h
    obtain ⟨e1, e2⟩ := Prod.mk.inj (Option.some.inj h)
    exact .inr (.inr (.inr (.inr (.inr (.inr (.inr (.inr (.inr (.inl ⟨c9, e1.symm, e2.symm⟩)))))))))
  rw [if_neg c9] at h
  by_cases c10 : p = 10
  · rw [if_pos c10] at h
    obtain ⟨e1, e2⟩ := Prod.mk.inj (Option.some.inj h)
    exact .inr (.inr (.inr (.inr (.inr (.inr (.inr (.inr (.inr (.inr (⟨c10, e1.symm, e2.symm⟩))))))))))
  rw [if_neg c10] at h
  cases h
theorem len0 {α : Type} {l : List α} (h : l.length = 0) : l = [] := List.eq_nil_of_length_eq_zero h
theorem len1 {α : Type} {l : List α} (h : l.length = 1) : ∃ a, l = [a] := by
  match l, h with
  | [a], _ => exact ⟨a, rfl⟩
theorem len2 {α : Type} {l : List α} (h : l.length = 2) : ∃ a b, l = [a, b] := by
  match l, h with
  | [a, b], _ => exact ⟨a, b, rfl⟩
theorem len3 {α : Type} {l : List α} (h : l.length = 3) : ∃ a b c, l = [a, b, c] := by
  match l, h with
  | [a, b, c], _ => exact ⟨a, b, c, rfl⟩
theorem len4 {α : Type} {l : List α} (h : l.length = 4) : ∃ a b c d, l = [a, b, c, d] := by
  match l, h with
  | [a, b, c, d], _ => exact ⟨a, b, c, d, rfl⟩
theorem bnd {lo hi : Int} {a b : Nat} {r : List Int} {rs : List (List Int)} {bs : List (Int × Int × Nat × Nat)} (h : PyInside.lists ((lo, hi, a, b) :: bs) (r :: rs) = true) : r.length ≤ b ∧ PyInside.lists bs rs = true := by
  have h' : (decide (a ≤ r.length) && decide (r.length ≤ b) && r.all (PyInside.within lo hi) && PyInside.lists bs rs) = true := h
  simp only [decide_eq_true_eq, Bool.and_eq_true] at h'
  exact ⟨h'.1.1.2, h'.2⟩
/-- one call -/
theorem call_is {c : List (List Int)} (ok : PyFlat.okCall PyUt03.shape c) (ins : PyInside.call PyUt03.bound c = true) (as : Ut03Neutral.asked1 ((PyUt03.whole c).headD []) = true) :
    ∃ x : Ut03.Call, Ut03Neutral.callOf ((PyUt03.whole c).headD []) = some x ∧ nn (PyFlat.put1 c) = enc x ∧ (∀ z ∈ PyFlat.put1 c, 0 ≤ z) ∧ sizes x := by
  obtain ⟨x, hx⟩ := Option.isSome_iff_exists.mp as
  obtain ⟨pos, hin⟩ := callOf_nat hx
  refine ⟨x, hx, ?_⟩
  obtain ⟨p, a, rs, rfl, hs⟩ := ok
  have ins' : (PyInside.each (PyUt03.bound p).1 a && PyInside.lists (PyUt03.bound p).2 rs) = true := ins
  rw [Bool.and_eq_true] at ins'
  have hb := ins'.2
  clear ins ins' as
  rcases shape_is hs with ⟨rfl, h1, h2⟩ | ⟨rfl, h1, h2⟩ | ⟨rfl, h1, h2⟩ | ⟨rfl, h1, h2⟩ | ⟨rfl, h1, h2⟩ | ⟨rfl, h1, h2⟩ | ⟨rfl, h1, h2⟩ | ⟨rfl, h1, h2⟩ | ⟨rfl, h1, h2⟩ | ⟨rfl, h1, h2⟩ | ⟨rfl, h1, h2⟩
  · obtain ⟨x0, x1, x2, rfl⟩ := len3 h1
    obtain ⟨r0, r1, rfl⟩ := len2 h2
    have e : (PyUt03.whole [[0, x0, x1, x2], r0, r1]).headD [] = PyFlat.put1 [[0, x0, x1, x2], r0, r1] := by simp [PyUt03.whole, PyFlat.put1, PyFlat.putRows, PyFlat.putRow]
    have e2 : nn (PyFlat.put1 [[0, x0, x1, x2], r0, r1]) = enc (.put ⟨nn r0, x0.toNat, x1.toNat, x2.toNat⟩ (nn r1)) := by
      show (0 : Int).toNat :: x0.toNat :: x1.toNat :: x2.toNat :: nn (PyFlat.putRow r0 ++ (PyFlat.putRow r1 ++ [])) = _
      rw [nn_app, nn_app, nn_row, nn_row]
      show 0 :: x0.toNat :: x1.toNat :: x2.toNat :: (encS (nn r0) ++ (encS (nn r1) ++ [])) = _
      rw [List.append_nil]
      rfl
    rw [e, e2, callIn_put] at hin
    have ex := Option.some.inj hin
    subst ex
    obtain ⟨b1, b2⟩ := bnd hb
    obtain ⟨b3, _⟩ := bnd b2
    refine ⟨e2, fun z hz => pos z (by rw [e]; exact hz), ?_⟩
    show (nn r0).length ≤ 25 ∧ (nn r1).length ≤ 25
    rw [nn_len, nn_len]
    exact ⟨b1, b3⟩
  · obtain ⟨x0, rfl⟩ := len1 h1
    obtain rfl := len0 h2
    have ex : some (Ut03.Call.take x0.toNat) = some x := hin
    have ex := Option.some.inj ex
    subst ex
    exact ⟨rfl, pos, trivial⟩
  · obtain ⟨x0, x1, x2, x3, rfl⟩ := len4 h1
    obtain ⟨r0, rfl⟩ := len1 h2
    have e : (PyUt03.whole [[2, x0, x1, x2, x3], r0]).headD [] = PyFlat.put1 [[2, x0, x1, x2, x3], r0] := by simp [PyUt03.whole, PyFlat.put1, PyFlat.putRows, PyFlat.putRow]
    have e2 : nn (PyFlat.put1 [[2, x0, x1, x2, x3], r0]) = enc (.find x0.toNat ⟨nn r0, x1.toNat, x2.toNat, x3.toNat⟩) := by
      show (2 : Int).toNat :: x0.toNat :: x1.toNat :: x2.toNat :: x3.toNat :: nn (PyFlat.putRow r0 ++ []) = _
      rw [nn_app, nn_row]
      show 2 :: x0.toNat :: x1.toNat :: x2.toNat :: x3.toNat :: (encS (nn r0) ++ []) = _
      rw [List.append_nil]
      rfl
    rw [e, e2, callIn_find] at hin
    have ex := Option.some.inj hin
    subst ex
    refine ⟨e2, fun z hz => pos z (by rw [e]; exact hz), ?_⟩
    show (nn r0).length ≤ 25
    rw [nn_len]
    exact (bnd hb).1
  · obtain ⟨x1, x2, x3, rfl⟩ := len3 h1
    obtain ⟨r0, rfl⟩ := len1 h2
    have e : (PyUt03.whole [[3, x1, x2, x3], r0]).headD [] = PyFlat.put1 [[3, x1, x2, x3], r0] := by simp [PyUt03.whole, PyFlat.put1, PyFlat.putRows, PyFlat.putRow]
    have e2 : nn (PyFlat.put1 [[3, x1, x2, x3], r0]) = enc (.best ⟨nn r0, x1.toNat, x2.toNat, x3.toNat⟩) := by
      show (3 : Int).toNat :: x1.toNat :: x2.toNat :: x3.toNat :: nn (PyFlat.putRow r0 ++ []) = _
      rw [nn_app, nn_row]
      show 3 :: x1.toNat :: x2.toNat :: x3.toNat :: (encS (nn r0) ++ []) = _
      rw [List.append_nil]
      rfl
    rw [e, e2, callIn_best] at hin
    have ex := Option.some.inj hin
    subst ex
    refine ⟨e2, fun z hz => pos z (by rw [e]; exact hz), ?_⟩
    show (nn r0).length ≤ 25
    rw [nn_len]
    exact (bnd hb).1
  · obtain ⟨x0, rfl⟩ := len1 h1
    obtain ⟨r0, rfl⟩ := len1 h2
    have e : (PyUt03.whole [[4, x0], r0]).headD [] = PyFlat.put1 [[4, x0], r0] := by simp [PyUt03.whole, PyFlat.put1, PyFlat.putRows, PyFlat.putRow]
    have e2 : nn (PyFlat.put1 [[4, x0], r0]) = enc (.way x0.toNat (nn r0)) := by
      show (4 : Int).toNat :: x0.toNat :: nn (PyFlat.putRow r0 ++ []) = _
      rw [nn_app, nn_row]
      show 4 :: x0.toNat :: (encS (nn r0) ++ []) = _
      rw [List.append_nil]
      rfl
    rw [e, e2, callIn_way] at hin
    have ex := Option.some.inj hin
    subst ex
    refine ⟨e2, fun z hz => pos z (by rw [e]; exact hz), ?_⟩
    show (nn r0).length ≤ 25
    rw [nn_len]
    exact (bnd hb).1
  · obtain ⟨x0, rfl⟩ := len1 h1
    obtain rfl := len0 h2
    have ex : some (Ut03.Call.with_ x0.toNat) = some x := hin
    have ex := Option.some.inj ex
    subst ex
    exact ⟨rfl, pos, trivial⟩
  · obtain ⟨x0, x1, rfl⟩ := len2 h1
    obtain ⟨r0, rfl⟩ := len1 h2
    have hin' : (if (nn r0).length < x1.toNat then none else (Ut03Neutral.asksIn x1.toNat (nn r0)).bind fun y => if y.2 = [] then some (Ut03.Call.fill x0.toNat y.1) else none) = some x := hin
    by_cases c : (nn r0).length < x1.toNat
    · rw [if_pos c] at hin'
      cases hin'
    · rw [if_neg c] at hin'
      cases e3 : Ut03Neutral.asksIn x1.toNat (nn r0) with
      | none =>
        rw [e3] at hin'
        cases hin'
      | some y =>
        obtain ⟨qs, t⟩ := y
        rw [e3] at hin'
        have hin2 : (if t = [] then some (Ut03.Call.fill x0.toNat qs) else none) = some x := hin'
        by_cases ct : t = []
        · rw [if_pos ct] at hin2
          have ex := Option.some.inj hin2
          subst ex
          obtain ⟨i1, i2⟩ := asksIn_inv _ _ _ _ e3
          rw [ct, List.append_nil] at i1
          refine ⟨?_, fun z hz => ?_, ?_⟩
          · show (6 : Int).toNat :: x0.toNat :: x1.toNat :: nn (PyFlat.putRow r0 ++ []) = 6 :: x0.toNat :: qs.length :: encS (encQs qs)
            rw [nn_app, nn_row, i2, ← i1]
            show 6 :: x0.toNat :: x1.toNat :: (encS (nn r0) ++ []) = _
            rw [List.append_nil]
          · have hz' : z ∈ [6, x0, x1] ++ ((r0.length : Int) :: (r0 ++ [])) := hz
            rw [List.append_nil] at hz'
            rcases List.mem_append.mp hz' with q | q
            · exact pos z (List.mem_append.mpr (.inl q))
            · rcases List.mem_cons.mp q with q0 | q
              · omega
              · exact pos z (List.mem_append.mpr (.inr q))
          · show (encQs qs).length ≤ 300
            rw [← i1, nn_len]
            exact (bnd hb).1
        · rw [if_neg ct] at hin2
          cases hin2
  · obtain ⟨x0, rfl⟩ := len1 h1
    obtain rfl := len0 h2
    have ex : some (Ut03.Call.entry x0.toNat) = some x := hin
    have ex := Option.some.inj ex
    subst ex
    exact ⟨rfl, pos, trivial⟩
  · obtain rfl := len0 h1
    obtain rfl := len0 h2
    have ex : some Ut03.Call.count = some x := hin
    have ex := Option.some.inj ex
    subst ex
    exact ⟨rfl, pos, trivial⟩
  · obtain rfl := len0 h1
    obtain rfl := len0 h2
    have ex : some Ut03.Call.undo = some x := hin
    have ex := Option.some.inj ex
    subst ex
    exact ⟨rfl, pos, trivial⟩
  · obtain rfl := len0 h1
    obtain ⟨r0, r1, rfl⟩ := len2 h2
    have e : (PyUt03.whole [[10], r0, r1]).headD [] = PyFlat.put1 [[10], r0, r1] := by simp [PyUt03.whole, PyFlat.put1, PyFlat.putRows, PyFlat.putRow]
    have e2 : nn (PyFlat.put1 [[10], r0, r1]) = enc (.near (nn r0) (nn r1)) := by
      show (10 : Int).toNat :: nn (PyFlat.putRow r0 ++ (PyFlat.putRow r1 ++ [])) = _
      rw [nn_app, nn_app, nn_row, nn_row]
      show 10 :: (encS (nn r0) ++ (encS (nn r1) ++ [])) = _
      rw [List.append_nil]
      rfl
    rw [e, e2, callIn_near] at hin
    have ex := Option.some.inj hin
    subst ex
    obtain ⟨b1, b2⟩ := bnd hb
    obtain ⟨b3, _⟩ := bnd b2
    refine ⟨e2, fun z hz => pos z (by rw [e]; exact hz), ?_⟩
    show (nn r0).length ≤ 25 ∧ (nn r1).length ≤ 25
    rw [nn_len, nn_len]
    exact ⟨b1, b3⟩
theorem calls_are : ∀ (raw : List (List (List Int))), (∀ c ∈ raw, PyFlat.okCall PyUt03.shape c) → (∀ c ∈ raw, PyInside.call PyUt03.bound c = true) → (∀ c ∈ raw, Ut03Neutral.asked1 ((PyUt03.whole c).headD []) = true) →
    ∃ cs : List Ut03.Call, nn (PyFlat.put raw) = cs.flatMap enc ∧ (∀ z ∈ PyFlat.put raw, 0 ≤ z) ∧ cs.length = raw.length ∧ (∀ c ∈ cs, sizes c) ∧
      ∀ s, PyFlat.played (fun s c => Ut03Neutral.step s (c.headD [])) s (raw.map PyUt03.whole) = playedC s cs
  | [], _, _, _ => ⟨[], rfl, fun z h => absurd h (by simp [PyFlat.put]), rfl, fun c h => absurd h (by simp), fun s => rfl⟩
  | c :: raw, h1, h2, h3 => by
    obtain ⟨x, x1, x2, x3, x4⟩ := call_is (h1 c (List.mem_cons_self ..)) (h2 c (List.mem_cons_self ..)) (h3 c (List.mem_cons_self ..))
    obtain ⟨cs, c1, c2, c3, c4, c5⟩ := calls_are raw (fun d hd => h1 d (List.mem_cons_of_mem _ hd)) (fun d hd => h2 d (List.mem_cons_of_mem _ hd)) (fun d hd => h3 d (List.mem_cons_of_mem _ hd))
    refine ⟨x :: cs, ?_, ?_, ?_, ?_, ?_⟩
    · show nn (PyFlat.put1 c ++ PyFlat.put raw) = enc x ++ cs.flatMap enc
      rw [nn_app, x2, c1]
    · intro z hz
      rcases List.mem_append.mp (show z ∈ PyFlat.put1 c ++ PyFlat.put raw from hz) with q | q
      · exact x3 z q
      · exact c2 z q
    · rw [List.length_cons, List.length_cons, c3]
    · intro d hd
      rcases List.mem_cons.mp hd with q | q
      · rw [q]
        exact x4
      · exact c4 d q
    · intro s
      have e : Ut03Neutral.step s ((PyUt03.whole c).headD []) = Ut03.step s x := by
        unfold Ut03Neutral.step
        rw [x1]
      show (Ut03Neutral.step s ((PyUt03.whole c).headD [])).2 :: PyFlat.played _ (Ut03Neutral.step s ((PyUt03.whole c).headD [])).1 (raw.map PyUt03.whole) = (Ut03.step s x).2 :: playedC (Ut03.step s x).1 cs
      rw [e, c5]
/-- **what is handed in, and what is due** -/
theorem asked_is {l : List Int} (h : PyUt03.answers_asked l = true) : ∃ cs : List Ut03.Call, nn l = cs.flatMap enc ∧ (∀ z ∈ l, 0 ≤ z) ∧ cs.length ≤ 30 ∧ (∀ c ∈ cs, sizes c) ∧
    PyUt03.answers l = PyFlat.told (playedC Ut03.init cs) ∧ (PyUt03.answers l).length ≤ 10000000 := by
  unfold PyUt03.answers_asked at h
  cases e : PyFlat.calls PyUt03.shape l.length l with
  | none =>
    rw [e] at h
    cases h
  | some raw =>
    rw [e] at h
    have h' : (!raw.isEmpty && PyFlat.atMost 30 raw && PyInside.calls PyUt03.bound raw && Ut03Neutral.asked ((raw.map PyUt03.whole).map fun c => c.headD []) && PyFlat.short 10000000 (PyUt03.answers l)) = true := h
    rw [Bool.and_eq_true, Bool.and_eq_true, Bool.and_eq_true, Bool.and_eq_true] at h'
    obtain ⟨⟨⟨⟨_, a2⟩, a3⟩, a4⟩, a5⟩ := h'
    obtain ⟨p1, p2⟩ := PyFlat.put_calls _ _ _ e
    have a4' : ∀ c ∈ raw, Ut03Neutral.asked1 ((PyUt03.whole c).headD []) = true := fun c hc => by
      unfold Ut03Neutral.asked at a4
      rw [Bool.and_eq_true] at a4
      exact List.all_eq_true.mp a4.1 _ (List.mem_map.mpr ⟨_, List.mem_map.mpr ⟨c, hc, rfl⟩, rfl⟩)
    obtain ⟨cs, c1, c2, c3, c4, c5⟩ := calls_are raw p2 (fun c hc => List.all_eq_true.mp a3 c hc) a4'
    refine ⟨cs, by rw [p1]; exact c1, by rw [p1]; exact c2, ?_, c4, ?_, of_decide_eq_true a5⟩
    · rw [c3]
      exact of_decide_eq_true a2
    · unfold PyUt03.answers PyUt03.calls
      rw [e]
      show PyFlat.told (PyFlat.played _ Ut03Neutral.start (raw.map PyUt03.whole)) = _
      rw [c5]
      rfl
end TM

set_option Elab.async false
namespace TM
/-! ### What holds of a memory -/
structure GoodL (n : Nat) (l : List Ut03.Entry) : Prop where
  len : l.length ≤ 30
  nd : (l.map fun e => e.number).Nodup
  lt : ∀ e ∈ l, e.number < n
  src : ∀ e ∈ l, e.source.length ≤ 20
  tgt : ∀ e ∈ l, e.target.length ≤ 20
structure Good (g : Ut03.St) : Prop where
  now : GoodL g.given g.entries
  old : ∀ o ∈ g.old, GoodL g.given o
theorem GoodL.mono {n m : Nat} {l : List Ut03.Entry} (h : n ≤ m) (g : GoodL n l) : GoodL m l := ⟨g.len, g.nd, fun e he => Nat.lt_of_lt_of_le (g.lt e he) h, g.src, g.tgt⟩
theorem GoodL.filter {n : Nat} {l : List Ut03.Entry} (p : Ut03.Entry → Bool) (g : GoodL n l) : GoodL n (l.filter p) :=
  ⟨Nat.le_trans (List.length_filter_le _ _) g.len, g.nd.sublist (List.Sublist.map _ List.filter_sublist), fun e he => g.lt e (List.mem_filter.mp he).1, fun e he => g.src e (List.mem_filter.mp he).1, fun e he => g.tgt e (List.mem_filter.mp he).1⟩
theorem GoodL.snoc {n : Nat} {l : List Ut03.Entry} {e : Ut03.Entry} (g : GoodL n l) (hl : ¬ 30 ≤ l.length) (he : e.number = n) (h1 : e.source.length ≤ 20) (h2 : e.target.length ≤ 20) : GoodL (n + 1) (l ++ [e]) := by
  refine ⟨?_, ?_, fun x hx => ?_, fun x hx => ?_, fun x hx => ?_⟩
  · rw [List.length_append, List.length_singleton]
    omega
  · rw [List.map_append]
    refine List.nodup_append.mpr ⟨g.nd, by simp, fun a ha b hb => ?_⟩
    obtain ⟨x, hx, rfl⟩ := List.mem_map.mp ha
    have hb' : b = e.number := by simpa using hb
    have := g.lt x hx
    omega
  · rcases List.mem_append.mp hx with q | q
    · exact Nat.lt_succ_of_lt (g.lt x q)
    · rw [List.mem_singleton.mp q, he]
      exact Nat.lt_succ_self n
  · rcases List.mem_append.mp hx with q | q
    · exact g.src x q
    · rw [List.mem_singleton.mp q]
      exact h1
  · rcases List.mem_append.mp hx with q | q
    · exact g.tgt x q
    · rw [List.mem_singleton.mp q]
      exact h2
theorem sentOk_len {s : List Nat} (h : Ut03.sentOk s = true) : s.length ≤ 20 := by
  unfold Ut03.sentOk at h
  rw [Bool.and_eq_true] at h
  exact of_decide_eq_true h.1
theorem askOk_len {q : Ut03.Ask} (h : Ut03.askOk q = true) : q.source.length ≤ 20 := by
  unfold Ut03.askOk at h
  rw [Bool.and_eq_true] at h
  exact sentOk_len h.1
theorem good_init : Good Ut03.init := ⟨⟨by show 0 ≤ 30; omega, List.nodup_nil, fun e h => absurd h (by simp [Ut03.init]), fun e h => absurd h (by simp [Ut03.init]), fun e h => absurd h (by simp [Ut03.init])⟩, fun o h => absurd h (by simp [Ut03.init])⟩
/-- the entries but the one with just that ask -/
def others (l : List Ut03.Entry) (q : Ut03.Ask) : List Ut03.Entry := l.filter fun e => !(e.source == q.source && (e.ahead == q.ahead && (e.behind == q.behind && e.client == q.client)))
/-- what put does -/
theorem step_put (g : Ut03.St) (q : Ut03.Ask) (t : List Nat) : Ut03.step g (.put q t) =
    if Ut03.askOk q = false ∨ Ut03.sentOk t = false ∨ t = [] then (g, [-1]) else
      if 30 ≤ (others g.entries q).length then (g, [-5]) else
        (⟨others g.entries q ++ [⟨g.given, q.source, t, q.ahead, q.behind, q.client⟩], g.given + 1, g.entries :: g.old⟩, Ut03.ints [g.given, (others g.entries q ++ [(⟨g.given, q.source, t, q.ahead, q.behind, q.client⟩ : Ut03.Entry)]).length]) := rfl
theorem good_step {g : Ut03.St} (c : Ut03.Call) (h : Good g) : Good (Ut03.step g c).1 := by
  cases c with
  | put q t =>
    rw [step_put]
    by_cases c1 : Ut03.askOk q = false ∨ Ut03.sentOk t = false ∨ t = []
    · rw [if_pos c1]
      exact h
    · rw [if_neg c1]
      by_cases c2 : 30 ≤ (others g.entries q).length
      · rw [if_pos c2]
        exact h
      · rw [if_neg c2]
        have a1 : Ut03.askOk q = true := by
          cases z : Ut03.askOk q with
          | true => rfl
          | false => exact absurd (.inl z) c1
        have a2 : Ut03.sentOk t = true := by
          cases z : Ut03.sentOk t with
          | true => rfl
          | false => exact absurd (.inr (.inl z)) c1
        refine ⟨GoodL.snoc (h.now.filter _) c2 rfl (askOk_len a1) (sentOk_len a2), fun o ho => ?_⟩
        rcases List.mem_cons.mp ho with q | q
        · rw [q]
          exact h.now.mono (Nat.le_succ _)
        · exact (h.old o q).mono (Nat.le_succ _)
  | take n =>
    show Good (if (g.entries.any fun e => e.number == n) = false then (g, [-2]) else (Ut03.changes g (g.entries.filter fun e => e.number != n), _)).1
    split
    · exact h
    · refine ⟨h.now.filter _, fun o ho => ?_⟩
      rcases List.mem_cons.mp ho with q | q
      · rw [q]
        exact h.now
      · exact h.old o q
  | undo =>
    show Good (match g.old with
      | [] => (g, [-7])
      | l :: r => (({ g with entries := l, old := r } : Ut03.St), Ut03.ints [l.length])).1
    cases e : g.old with
    | nil => exact h
    | cons l r =>
      refine ⟨h.old l (by rw [e]; exact List.mem_cons_self ..), fun o ho => h.old o (by rw [e]; exact List.mem_cons_of_mem _ ho)⟩
  | _ => exact h
end TM

set_option Elab.async false
set_option linter.all false
set_option maxRecDepth 100000
set_option maxHeartbeats 2000000
namespace TM
open PySem PySem.Spec PyProof.Rows L2
abbrev Sg := PySem.Str
/-- the i-th statement of the program -/
def top (i : Nat) : Stmt := PySem.Challenge.pw_translations_s01_answers.main.body.getD i (.Pass ⟨0, 0, 0, 0⟩)
/-- numbers as values -/
def iv (l : List Nat) : List V := l.map fun (n : Nat) => V.int (n : Int)
theorem iv_len (l : List Nat) : (iv l).length = l.length := List.length_map _
theorem iv_get {l : List Nat} {i : Nat} {x : V} (h : (iv l)[i]? = some x) : ∃ n, l[i]? = some n ∧ x = V.int (n : Int) := by
  unfold iv at h
  rw [List.getElem?_map] at h
  cases e : l[i]? with
  | none =>
    rw [e] at h
    cases h
  | some n =>
    rw [e] at h
    exact ⟨n, rfl, (Option.some.inj h).symm⟩
theorem iv_at {l : List Nat} {i n : Nat} (h : l[i]? = some n) : (iv l)[i]? = some (V.int (n : Int)) := by
  unfold iv
  rw [List.getElem?_map, h]
  rfl
theorem iv_ints (l : List Nat) : iv l = (l.map fun (n : Nat) => (n : Int)).map V.int := by
  unfold iv
  rw [List.map_map]
  rfl
theorem take_more {α : Type} {l : List α} {i : Nat} {x : α} (h : l[i]? = some x) : l.take (i + 1) = l.take i ++ [x] := by
  rw [List.take_add_one, h]
  rfl
/-- a whole number of the module's top -/
theorem pe_gint {X : Cx} {x : Sg} {i : Int} {pos : Pos} (hg : Gl X x) (hm : ∃ t, X.mg x = some (.int i t)) (hd : (x == ("__debug__" : Sg)) = false := by decide) : PE X (.Name x pos) (tC (.int i)) := by
  exact hm.elim fun t e => pe_glob hg e ⟨t, rfl⟩ hd
theorem small {n : Nat} (h : n ≤ 10000000) : n < sizeLine := Nat.lt_of_le_of_lt h (by decide)
theorem small' {n : Nat} (h : n ≤ 10000000) : n ≤ sizeLine := Nat.le_of_lt (small h)
theorem Same.new {H : Hp} {p : Addr} {o : HO} (h : H p = none) : Same H (upd H p o) := fun b u e => by
  rw [upd_ne (ne_of_none e h)]
  exact e
/-- what the top holds: the built-in names are free -/
structure Bt (mg : Sg → Option Value) : Prop where
  len : mg "len" = none
  all : mg "all" = none
  list : mg "list" = none
  range : mg "range" = none
  min : mg "min" = none
  max : mg "max" = none
  reversed : mg "reversed" = none
  sorted : mg "sorted" = none
  set : mg "set" = none
  tuple : mg "tuple" = none
structure Cs (mg : Sg → Option Value) : Prop where
  mostWords : ∃ t, mg "MOST_WORDS" = some (.int 20 t)
  highWord : ∃ t, mg "HIGHEST_WORD" = some (.int 9999 t)
  kept : ∃ t, mg "KEPT" = some (.int 0 t)
  exch : ∃ t, mg "EXCHANGED" = some (.int 1 t)
  out : ∃ t, mg "TAKEN_OUT" = some (.int 2 t)
  putIn : ∃ t, mg "PUT_IN" = some (.int 3 t)
/-- a def stands under its name, and binds its parameters -/
structure DefAt (K : PySem.W.Frag) (mg : Sg → Option Value) (name : Sg) (st : Stmt) (ps : List Sg) (f : Addr) (fd : FuncData) : Prop where
  F : Fun K name name st f fd
  b : Binds K fd ps []
  g : mg name = some (.ref f)
end TM

set_option Elab.async false
set_option linter.all false
set_option maxRecDepth 100000
set_option maxHeartbeats 2000000
namespace TM
open PySem PySem.Spec PyProof.Rows L2
theorem Same.over {H H1 : Hp} {D : Addr} {o : HO} (s : Same H H1) (h : H D = none) : Same H (upd H1 D o) := fun b u e => by
  rw [upd_ne (ne_of_none e h)]
  exact s b u e
section
variable {P : Program} {w : World} {K : PySem.W.Frag} {mg : Sg → Option Value} {base : Heap}
/-! ### is_sentence -/
abbrev sSent : Stmt := top 7
def spSent (K : PySem.W.Frag) : Sp := fun vs H Q _ => ∃ (a : Addr) (l : List Nat), vs = [.ref a] ∧ SqL K H a (iv l) ∧ l.length ≤ 1000 ∧ ∀ H', Same H H' → Q (.bl (Ut03.sentOk l)) H'
theorem scSent : FnScope ["words", "word"] ["words"] (defScope sSent) := ⟨rfl, rfl, rfl, by decide +kernel, rfl, by decide +kernel, by decide +kernel⟩
theorem sentOk_long {l : List Nat} (h : 20 < l.length) : Ut03.sentOk l = false := by
  unfold Ut03.sentOk
  rw [decide_eq_false (p := l.length ≤ 20) (by omega)]
  rfl
theorem sentOk_short {l : List Nat} (h : ¬ 20 < l.length) : Ut03.sentOk l = (l.map fun n => decide (n ≤ 9999)).all id := by
  unfold Ut03.sentOk
  rw [decide_eq_true (by omega), List.all_map]
  rfl
theorem ok_sent {f : Addr} {fd : FuncData} (B : Bt mg) (C : Cs mg) (D : DefAt K mg "is_sentence" sSent ["words"] f fd) : FnOk P w K mg base CX0 1 f fd ["words"] (spSent K) := by
  refine D.F.ok scSent (fun vs H Q E h => ?_) (fun cdv A outer s H vs Q E hr h => ?_)
  · obtain ⟨a, l, rfl, _⟩ := h
    rfl
  · obtain ⟨a, l, rfl, hS, hl, k⟩ := h
    refine ⟨_, pss_cons (ps_if (pt_cmpR op_gt (pe_callB call_len_seq (by rfl) B.len PySem.boot_len (pa_cons (pv 0) pa_nil)) (pe_gint rfl C.mostWords) (nomark _)) (pss_one (ps_ret pe_bl)) pss_nil)
      (pss_one (ps_ret (pe_callB (cr_all rfl) (by rfl) B.all (by decide +kernel) (pa_cons (pe_lc (own := [("word", 1)]) (g := gName 1) (tt := tYes) rfl scSent.nd (pi_list (pv 0)) (blkOk_by (own := [("word", 1)]) (N := ["words", "word"]) (sc := defScope sSent) (by decide +kernel))
        (fun _ _ _ _ _ => pg_name (i := 1) scSent.nd rfl (Or.inl rfl)) (fun _ _ _ _ _ => pts_nil) (fun _ _ _ _ _ => pe_cmpR op_le (pv 1) (pe_gint rfl C.highWord) (nomark _))) pa_nil)))), ?_⟩
    refine ⟨_, rfl, a, _, rfl, .inl hS, _, _, rfl, rfl, _, rfl, ?_⟩
    refine ite2 (fun c => ?_) (fun c => ?_)
    · have c' : 20 < l.length := by
        have q := of_decide_eq_true c
        rw [iv_len] at q
        omega
      have q := k H (Same.refl H)
      rw [sentOk_long c'] at q
      exact q
    · have c' : ¬ 20 < l.length := fun z => c (decide_eq_true (by rw [iv_len]; omega))
      refine ⟨_, rfl, a, rfl, ⟨_, hS⟩, fun D hD => lc_list (K := K) (a := a) (xs := iv l) (fun i H1 => Same H H1 ∧ H1 D = some (.lst ((l.take i).map fun n => V.bl (decide (n ≤ 9999))))) ⟨Same.new hD, upd_same⟩ (fun i H1 _ p => p.1.seq hS) ?_ ?_⟩
      · rintro i x H1 hx ⟨s1, d1⟩
        obtain ⟨n, hn, rfl⟩ := iv_get hx
        refine ⟨rfl, _, rfl, _, _, rfl, rfl, _, d1, small (by rw [List.length_map, List.length_take]; omega), Same.over s1 hD, ?_⟩
        rw [upd_same, take_more hn, List.map_append]
        have e : decide ((n : Int) ≤ 9999) = decide (n ≤ 9999) := decide_eq_decide.mpr (by omega)
        dsimp only
        rw [e]
        rfl
      · rintro H1 ⟨s1, d1⟩
        rw [iv_len, List.take_length] at d1
        refine ⟨D, l.map fun n => decide (n ≤ 9999), rfl, SqL.of (by rw [List.map_map]; exact d1), ?_⟩
        have q := k H1 s1
        rw [sentOk_short c'] at q
        exact q
/-! ### is_sentence_with_words -/
abbrev sSentW : Stmt := top 8
def sentW (l : List Nat) : Bool := decide (1 ≤ l.length) && Ut03.sentOk l
def spSentW (K : PySem.W.Frag) : Sp := fun vs H Q _ => ∃ (a : Addr) (l : List Nat), vs = [.ref a] ∧ SqL K H a (iv l) ∧ l.length ≤ 1000 ∧ ∀ H', Same H H' → Q (.bl (sentW l)) H'
theorem scSentW : FnScope ["words"] ["words"] (defScope sSentW) := ⟨rfl, rfl, rfl, by decide +kernel, rfl, by decide +kernel, by decide +kernel⟩
theorem ok_sentW {f f1 : Addr} {fd fd1 : FuncData} (B : Bt mg) (C : Cs mg) (D : DefAt K mg "is_sentence_with_words" sSentW ["words"] f fd) (D1 : DefAt K mg "is_sentence" sSent ["words"] f1 fd1) : FnOk P w K mg base CX0 2 f fd ["words"] (spSentW K) := by
  refine D.F.ok scSentW (fun vs H Q E h => ?_) (fun cdv A outer s H vs Q E hr h => ?_)
  · obtain ⟨a, l, rfl, _⟩ := h
    rfl
  · obtain ⟨a, l, rfl, hS, hl, k⟩ := h
    refine ⟨_, pss_one (ps_ret (pe_and (pe_cmpR op_gt (pe_callB call_len_seq (by rfl) B.len PySem.boot_len (pa_cons (pv 0) pa_nil)) pe_int (nomark _)) (pe_one (pe_call (ok_sent B C D1) hr rfl D1.g D1.F.kp D1.b .nil pass0 (pa_cons (pv 0) pa_nil))))), ?_⟩
    refine ⟨_, rfl, a, _, rfl, .inl hS, _, _, rfl, rfl, _, rfl, ?_⟩
    refine ite2 (fun c => ?_) (fun c => ?_)
    · have c' : 1 ≤ l.length := by
        have q := of_decide_eq_true c
        rw [iv_len] at q
        omega
      refine ⟨_, rfl, a, l, rfl, hS, hl, fun H' s' => ?_⟩
      have q := k H' s'
      unfold sentW at q
      rw [decide_eq_true c'] at q
      exact q
    · have c' : ¬ 1 ≤ l.length := fun z => c (decide_eq_true (by rw [iv_len]; omega))
      have q := k H (Same.refl H)
      unfold sentW at q
      rw [decide_eq_false c'] at q
      exact q
end
end TM

set_option Elab.async false
set_option linter.all false
set_option maxRecDepth 100000
set_option maxHeartbeats 2000000
namespace TM
open PySem PySem.Spec PyProof.Rows L2
theorem min3_is (a b c : Int) : nuMin3 (.int a) (.int b) (.int c) = some (.int (min (min a b) c)) := by
  have h2 : ∀ x y : Int, nuMin2 (.int x) (.int y) = some (.int (min x y)) := fun x y => by
    show some (if decide (y < x) = true then V.int y else V.int x) = _
    by_cases h : y < x
    · rw [if_pos (decide_eq_true h), Int.min_eq_right (by omega)]
    · rw [if_neg (by simp [h]), Int.min_eq_left (by omega)]
  unfold nuMin3
  rw [h2]
  exact h2 _ _
theorem rowPart {a b : List Nat} {i j : Nat} : (List.range (j + 1)).map (lev a b i) = (List.range j).map (lev a b i) ++ [lev a b i j] := by
  rw [List.range_succ, List.map_append]
  rfl
theorem levRow_at {a b : List Nat} {i j : Nat} (h : j ≤ b.length) : (levRow a b i)[j]? = some (lev a b i j) := by
  unfold levRow
  rw [List.getElem?_map, List.getElem?_range (by omega)]
  rfl
theorem part_at {a b : List Nat} {i j n : Nat} (h : j < n) : ((List.range n).map (lev a b i))[j]? = some (lev a b i j) := by
  rw [List.getElem?_map, List.getElem?_range h]
  rfl
section
variable {P : Program} {w : World} {K : PySem.W.Frag} {mg : Sg → Option Value} {base : Heap}
/-! ### row_with_word -/
abbrev sRow : Stmt := top 11
def spRow (K : PySem.W.Frag) : Sp := fun vs H Q _ => ∃ (p q : Addr) (a b : List Nat) (i x : Nat), vs = [.ref p, .int (x : Int), .ref q] ∧ SqL K H p (iv (levRow a b i)) ∧ SqL K H q (iv b) ∧ a[i]? = some x ∧ b.length ≤ 1000 ∧
  ∀ (H' : Hp) (r : Addr), Same H H' → H r = none → H' r = some (.lst (iv (levRow a b (i + 1)))) → Q (.ref r) H'
abbrev nRow : List Sg := ["above", "word", "second", "row", "place", "exchange"]
theorem scRow : FnScope nRow ["above", "word", "second"] (defScope sRow) := ⟨rfl, rfl, rfl, by decide +kernel, rfl, by decide +kernel, by decide +kernel⟩
theorem ok_row {f : Addr} {fd : FuncData} (B : Bt mg) (D : DefAt K mg "row_with_word" sRow ["above", "word", "second"] f fd) : FnOk P w K mg base CX0 1 f fd ["above", "word", "second"] (spRow K) := by
  refine D.F.ok scRow (fun vs H Q E h => ?_) (fun cdv A outer s H vs Q E hr h => ?_)
  · obtain ⟨p, q, a, b, i, x, rfl, _⟩ := h
    rfl
  · obtain ⟨p, q, a, b, i, x, rfl, hp, hq, hx, hl, k⟩ := h
    refine ⟨_, pss_cons (ps_set (i := 3) scRow.nd rfl (Or.inl rfl) (pe_lst (pa_cons (pe_op op_add (pe_ix ix_list (pv 0) pe_int (fun _ _ => rfl)) pe_int) pa_nil)))
      (pss_cons (ps_for PassesOwn.never rfl (pi_range1 rfl B.range (pa_cons (pe_callB call_len_seq (by rfl) B.len PySem.boot_len (pa_cons (pv 2) pa_nil)) pa_nil)) (pg_name (i := 4) scRow.nd rfl (Or.inl rfl))
        (pss_cons (ps_set (i := 5) scRow.nd rfl (Or.inl rfl) (pe_ifExp (pt_cmpR op_eq (pv 1) (pe_ix ix_list (pv 2) (pv 4) (fun _ _ => rfl)) (nomark _)) pe_int pe_int))
        (pss_one (ps_expr (pe_bm PySem.F.plainAttrs_list PySem.F.slot_list_append PySem.F.type_list_append mt_append (pv 3) (pa_cons
          (pe_callB (call_min3Nu rfl) (by rfl) B.min (by decide +kernel) (pa_cons (pe_op op_add (pe_ix ix_list (pv 0) (pv 4) (fun _ _ => rfl)) (pv 5)) (pa_cons (pe_op op_add (pe_ix ix_list (pv 0) (pe_op op_add (pv 4) pe_int) (fun _ _ => rfl)) pe_int) (pa_cons (pe_op op_add (pe_ix ix_list (pv 3) (pv 4) (fun _ _ => rfl)) pe_int) pa_nil)))) pa_nil))))))
      (pss_one (ps_ret (pv 3)))), ?_⟩
    have e0 : lev a b i 0 = i := lev_i_zero a b i
    refine ⟨_, rfl, p, _, _, _, rfl, rfl, hp, atI_nat (j := 0) (iv_at (levRow_at (Nat.zero_le _))), _, _, rfl, rfl, by show 1 ≤ sizeLine; decide, fun r hr0 => ?_⟩
    have hq1 : SqL K (upd H r (.lst [.int ((lev a b i 0 : Nat) + 1)])) q (iv b) := (Same.new hr0).seq hq
    refine ⟨_, rfl, q, _, rfl, .inl hq1, _, rfl, by rw [iv_len]; omega, by rw [iv_len]; omega, for_range (lo := 0) (n := (iv b).length) (fun j σ H1 => ∃ (v4 v5 : Option V), σ = [some (.ref p), some (.int (x : Int)), some (.ref q), some (.ref r), v4, v5] ∧ Same H H1 ∧ H1 r = some (.lst (iv ((List.range (j + 1)).map (lev a b (i + 1)))))) ?_ ?_ ?_⟩
    · refine ⟨none, none, rfl, Same.new hr0, ?_⟩
      rw [upd_same]
      show some (HO.lst [V.int ((lev a b i 0 : Nat) + 1)]) = some (HO.lst [V.int ((lev a b (i + 1) 0 : Nat) : Int)])
      rw [e0, lev_succ_zero]
      rfl
    · rintro j σ H1 hj ⟨v4, v5, rfl, s1, d1⟩
      rw [iv_len] at hj
      obtain ⟨y, hy⟩ : ∃ y, b[j]? = some y := ⟨_, List.getElem?_eq_getElem hj⟩
      have hdx : a.getD i 0 = x := by rw [List.getD_eq_getElem?_getD, hx]; rfl
      have hdy : b.getD j 0 = y := by rw [List.getD_eq_getElem?_getD, hy]; rfl
      have hs := lev_succ a b i j
      rw [hdx, hdy] at hs
      refine ⟨_, rfl, _, rfl, _, rfl, q, _, _, _, rfl, rfl, s1.seq hq, at_of (j := j) (by omega) (iv_at hy), rfl, _, rfl, ?_⟩
      refine ite2 (fun c => ?_) (fun c => ?_)
      all_goals
        refine ⟨_, rfl, .inl ⟨rfl, _, SqL.of d1⟩, _, rfl, _, rfl, p, _, _, _, rfl, rfl, s1.seq hp, at_of (j := j) (by omega) (iv_at (levRow_at (by omega))), _, rfl, _, _, rfl, rfl, ?_⟩
        refine ⟨_, rfl, _, rfl, _, _, rfl, rfl, p, _, _, _, rfl, rfl, s1.seq hp, at_of (j := j + 1) (by show (0 : Int) + (j : Int) + 1 = ((j + 1 : Nat) : Int); omega) (iv_at (levRow_at (by omega))), _, _, rfl, rfl, ?_⟩
        refine ⟨_, rfl, _, rfl, r, _, _, _, rfl, rfl, SqL.of d1, at_of (j := j) (by omega) (iv_at (part_at (by omega))), _, _, rfl, rfl, ?_⟩
        refine ⟨_, _, _, _, rfl, min3_is _ _ _, r, _, _, rfl, rfl, d1, small (by rw [iv_len, List.length_map, List.length_range]; omega), _, _, rfl, Same.over s1 hr0, ?_⟩
        rw [upd_same, rowPart (j := j + 1)]
        unfold iv
        rw [List.map_append]
        refine congrArg (fun z => some (HO.lst (_ ++ [V.int z]))) ?_
      · have e : x = y := by
          have z := of_decide_eq_true c
          injection z with z
          omega
        rw [if_pos e] at hs
        omega
      · have e : ¬ x = y := fun z => c (decide_eq_true (by rw [z]))
        rw [if_neg e] at hs
        omega
    · rintro σ H1 ⟨v4, v5, rfl, s1, d1⟩
      rw [iv_len] at d1
      exact ⟨_, rfl, k H1 r s1 hr0 d1⟩
end
end TM

set_option Elab.async false
set_option linter.all false
set_option maxRecDepth 100000
set_option maxHeartbeats 2000000
namespace TM
open PySem PySem.Spec PyProof.Rows L2
theorem rg_row (a b : List Nat) : rgV 0 (((iv b).length : Nat) + 1 : Int) = iv (levRow a b 0) := by
  rw [levRow_zero, iv_len]
  unfold rgV iv
  have e : (((b.length : Nat) + 1 : Int) - 0).toNat = b.length + 1 := by omega
  rw [e]
  exact List.map_congr_left fun j _ => by rw [Int.zero_add]
/-- the table stands: r the list of its rows -/
def RowsAt (K : PySem.W.Frag) (H : Hp) (r : Addr) (a b : List Nat) (n : Nat) : Prop := ∃ rs : List Addr, SqL K H r (rs.map V.ref) ∧ rs.length = n ∧ ∀ (i : Nat) (t : Addr), rs[i]? = some t → H t = some (.lst (iv (levRow a b i)))
theorem RowsAt.same {K : PySem.W.Frag} {H H' : Hp} {r : Addr} {a b : List Nat} {n : Nat} (s : Same H H') (x : RowsAt K H r a b n) : RowsAt K H' r a b n := by
  obtain ⟨rs, h1, h2, h3⟩ := x
  exact ⟨rs, s.seq h1, h2, fun i t e => s _ _ (h3 i t e)⟩
theorem RowsAt.row {K : PySem.W.Frag} {H : Hp} {r : Addr} {a b : List Nat} {n i : Nat} (x : RowsAt K H r a b n) (h : i < n) : ∃ (xs : List V) (t : Addr), SqL K H r xs ∧ xs[i]? = some (.ref t) ∧ H t = some (.lst (iv (levRow a b i))) := by
  obtain ⟨rs, h1, h2, h3⟩ := x
  have hi : i < rs.length := by omega
  refine ⟨_, rs[i], h1, ?_, h3 i _ (List.getElem?_eq_getElem hi)⟩
  rw [List.getElem?_map, List.getElem?_eq_getElem hi]
  rfl
/-- a list of references is no row -/
theorem refs_row {rs : List Addr} {a b : List Nat} {j : Nat} (h : 0 < rs.length) (e : some (HO.lst (rs.map V.ref)) = some (HO.lst (iv (levRow a b j)))) : False := by
  have e1 := HO.lst.inj (Option.some.inj e)
  have h1 : (rs.map V.ref)[0]? = some (V.ref rs[0]) := by rw [List.getElem?_map, List.getElem?_eq_getElem h]; rfl
  rw [e1, iv_at (levRow_at (Nat.zero_le _))] at h1
  cases h1
section
variable {P : Program} {w : World} {K : PySem.W.Frag} {mg : Sg → Option Value} {base : Heap}
/-! ### distance_rows -/
abbrev sRows : Stmt := top 10
def spRows (K : PySem.W.Frag) : Sp := fun vs H Q _ => ∃ (p q : Addr) (a b : List Nat), vs = [.ref p, .ref q] ∧ SqL K H p (iv a) ∧ SqL K H q (iv b) ∧ a.length ≤ 1000 ∧ b.length ≤ 1000 ∧
  ∀ (H' : Hp) (r : Addr), Same H H' → RowsAt K H' r a b (a.length + 1) → Q (.ref r) H'
abbrev nRows : List Sg := ["first", "second", "row", "rows", "word"]
theorem scRows : FnScope nRows ["first", "second"] (defScope sRows) := ⟨rfl, rfl, rfl, by decide +kernel, rfl, by decide +kernel, by decide +kernel⟩
theorem ok_rows {f f1 : Addr} {fd fd1 : FuncData} (B : Bt mg) (D : DefAt K mg "distance_rows" sRows ["first", "second"] f fd) (D1 : DefAt K mg "row_with_word" sRow ["above", "word", "second"] f1 fd1) : FnOk P w K mg base CX0 2 f fd ["first", "second"] (spRows K) := by
  refine D.F.ok scRows (fun vs H Q E h => ?_) (fun cdv A outer s H vs Q E hr h => ?_)
  · obtain ⟨p, q, a, b, rfl, _⟩ := h
    rfl
  · obtain ⟨p, q, a, b, rfl, hp, hq, hla, hlb, k⟩ := h
    refine ⟨_, pss_cons (ps_set (i := 2) scRows.nd rfl (Or.inl rfl) (pe_listRg rfl rfl B.list (prg_1 rfl B.range (pe_op op_add (pe_callB call_len_seq (by rfl) B.len PySem.boot_len (pa_cons (pv 1) pa_nil)) pe_int))))
      (pss_cons (ps_set (i := 3) scRows.nd rfl (Or.inl rfl) (pe_lst (pa_cons (pv 2) pa_nil)))
      (pss_cons (ps_for PassesOwn.never rfl (pi_list (pv 0)) (pg_name (i := 4) scRows.nd rfl (Or.inl rfl))
        (pss_cons (ps_set (i := 2) scRows.nd rfl (Or.inl rfl) (pe_call (ok_row B D1) hr rfl D1.g D1.F.kp D1.b .nil pass0 (pa_cons (pv 2) (pa_cons (pv 4) (pa_cons (pv 1) pa_nil)))))
        (pss_one (ps_expr (pe_bm PySem.F.plainAttrs_list PySem.F.slot_list_append PySem.F.type_list_append mt_append (pv 3) (pa_cons (pv 2) pa_nil))))))
      (pss_one (ps_ret (pv 3))))), ?_⟩
    refine ⟨_, rfl, q, _, rfl, .inl hq, _, _, rfl, rfl, _, rfl, RgOk.of_le (by omega) (by rw [iv_len]; omega) (by omega) (by rw [iv_len]; omega), fun t ht => ?_⟩
    rw [rg_row a b]
    refine ⟨_, rfl, by show 1 ≤ sizeLine; decide, fun r hr0 => ?_⟩
    have ntr : t ≠ r := fun z => by rw [← z, upd_same] at hr0; cases hr0
    have hr1 : H r = none := by rw [upd_ne ntr.symm] at hr0; exact hr0
    have s0 : Same H (upd (upd H t (.lst (iv (levRow a b 0)))) r (.lst [V.ref t])) := Same.over (Same.new ht) hr1
    refine ⟨_, rfl, p, rfl, ⟨_, s0.seq hp⟩, for_list (K := K) (a := p) (xs := iv a) (fun i σ H1 => ∃ (v4 : Option V) (rs : List Addr) (t : Addr), σ = [some (.ref p), some (.ref q), some (.ref t), some (.ref r), v4] ∧ Same H H1 ∧ H1 r = some (.lst (rs.map V.ref)) ∧ rs.length = i + 1 ∧ rs[i]? = some t ∧
      ∀ (j : Nat) (u : Addr), rs[j]? = some u → H1 u = some (.lst (iv (levRow a b j)))) ?_ (fun i σ H1 _ ⟨_, _, _, _, s1, _⟩ => s1.seq hp) ?_ ?_⟩
    · refine ⟨none, [t], t, rfl, s0, upd_same, rfl, rfl, fun j u e => ?_⟩
      have ej : j = 0 := by
        have := (List.getElem?_eq_some_iff.mp e).1
        rw [List.length_singleton] at this
        omega
      subst ej
      have eu : t = u := Option.some.inj e
      subst eu
      rw [upd_ne ntr, upd_same]
    · rintro i x σ H1 hx ⟨v4, rs, t1, rfl, s1, d1, hl1, ht1, hrs⟩
      obtain ⟨n, hn, rfl⟩ := iv_get hx
      refine ⟨_, rfl, _, rfl, _, rfl, t1, q, a, b, i, n, rfl, SqL.of (hrs i t1 ht1), s1.seq hq, hn, hlb, fun H2 t2 s2 n2 d2 => ?_⟩
      have hi : i < a.length := (List.getElem?_eq_some_iff.mp hn).1
      have nr2 : r ≠ t2 := fun z => by rw [← z, d1] at n2; cases n2
      refine ⟨_, rfl, .inl ⟨rfl, _, SqL.of (s2 _ _ d1)⟩, _, rfl, r, _, _, rfl, rfl, s2 _ _ d1, small (by rw [List.length_map]; omega), _, rs ++ [t2], t2, rfl, Same.over (s1.trans s2) hr1, ?_, ?_, ?_, ?_⟩
      · rw [upd_same, List.map_append]
        rfl
      · rw [List.length_append, List.length_singleton, hl1]
      · rw [List.getElem?_append_right (by omega), hl1, Nat.sub_self]
        rfl
      · intro j u e
        by_cases hj : j < rs.length
        · rw [List.getElem?_append_left hj] at e
          have e1 := hrs j u e
          have nu : u ≠ r := fun z => by
            rw [z, d1] at e1
            exact refs_row (by omega) e1
          rw [upd_ne nu]
          exact s2 _ _ e1
        · rw [List.getElem?_append_right (by omega)] at e
          have ej : j - rs.length = 0 := by
            have := (List.getElem?_eq_some_iff.mp e).1
            rw [List.length_singleton] at this
            omega
          rw [ej] at e
          have eu : t2 = u := Option.some.inj e
          subst eu
          have ej2 : j = i + 1 := by omega
          subst ej2
          rw [upd_ne nr2.symm]
          exact d2
    · rintro σ H1 ⟨v4, rs, t1, rfl, s1, d1, hl1, ht1, hrs⟩
      rw [iv_len] at hl1
      exact ⟨_, rfl, k H1 r s1 ⟨rs, SqL.of d1, hl1, hrs⟩⟩
end
end TM

set_option Elab.async false
set_option linter.all false
set_option maxRecDepth 100000
set_option maxHeartbeats 2000000
namespace TM
open PySem PySem.Spec PyProof.Rows L2
section
variable {P : Program} {w : World} {K : PySem.W.Frag} {mg : Sg → Option Value} {base : Heap}
/-! ### distance_between -/
abbrev sDist : Stmt := top 12
/-- of two sentences something is told -/
def spTwo (K : PySem.W.Frag) (g : List Nat → List Nat → Nat) : Sp := fun vs H Q _ => ∃ (p q : Addr) (a b : List Nat), vs = [.ref p, .ref q] ∧ SqL K H p (iv a) ∧ SqL K H q (iv b) ∧ a.length ≤ 1000 ∧ b.length ≤ 1000 ∧
  ∀ (H' : Hp), Same H H' → Q (.int (g a b : Nat)) H'
theorem scDist : FnScope ["first", "second"] ["first", "second"] (defScope sDist) := ⟨rfl, rfl, rfl, by decide +kernel, rfl, by decide +kernel, by decide +kernel⟩
theorem ok_dist {f f1 f2 : Addr} {fd fd1 fd2 : FuncData} (B : Bt mg) (D : DefAt K mg "distance_between" sDist ["first", "second"] f fd) (D1 : DefAt K mg "distance_rows" sRows ["first", "second"] f1 fd1) (D2 : DefAt K mg "row_with_word" sRow ["above", "word", "second"] f2 fd2) :
    FnOk P w K mg base CX0 3 f fd ["first", "second"] (spTwo K Ut03.distance) := by
  refine D.F.ok scDist (fun vs H Q E h => ?_) (fun cdv A outer s H vs Q E hr h => ?_)
  · obtain ⟨p, q, a, b, rfl, _⟩ := h
    rfl
  · obtain ⟨p, q, a, b, rfl, hp, hq, hla, hlb, k⟩ := h
    refine ⟨_, pss_one (ps_ret (pe_ix ix_list (pe_ix ix_list (pe_call (ok_rows B D1 D2) hr rfl D1.g D1.F.kp D1.b .nil pass0 (pa_cons (pv 0) (pa_cons (pv 1) pa_nil))) (pe_callB call_len_seq (by rfl) B.len PySem.boot_len (pa_cons (pv 0) pa_nil)) (fun _ _ => rfl))
      (pe_callB call_len_seq (by rfl) B.len PySem.boot_len (pa_cons (pv 1) pa_nil)) (fun _ _ => rfl))), ?_⟩
    refine ⟨_, rfl, _, rfl, p, q, a, b, rfl, hp, hq, hla, hlb, fun H1 r s1 R1 => ?_⟩
    obtain ⟨xs, t, h1, h2, h3⟩ := R1.row (i := a.length) (by omega)
    refine ⟨_, rfl, p, _, rfl, .inl (s1.seq hp), r, _, _, _, rfl, rfl, h1, at_of (j := a.length) (by rw [iv_len]) h2, ?_⟩
    refine ⟨_, rfl, q, _, rfl, .inl (s1.seq hq), t, _, _, _, rfl, rfl, SqL.of h3, at_of (j := b.length) (by rw [iv_len]) (iv_at (levRow_at (Nat.le_refl _))), ?_⟩
    have e := k H1 s1
    rw [distance_eq] at e
    exact e
/-! ### nearness_of -/
abbrev sNear : Stmt := top 13
theorem scNear : FnScope ["first", "second", "longer"] ["first", "second"] (defScope sNear) := ⟨rfl, rfl, rfl, by decide +kernel, rfl, by decide +kernel, by decide +kernel⟩
theorem ok_near {f f0 f1 f2 : Addr} {fd fd0 fd1 fd2 : FuncData} (B : Bt mg) (D : DefAt K mg "nearness_of" sNear ["first", "second"] f fd) (D0 : DefAt K mg "distance_between" sDist ["first", "second"] f0 fd0) (D1 : DefAt K mg "distance_rows" sRows ["first", "second"] f1 fd1) (D2 : DefAt K mg "row_with_word" sRow ["above", "word", "second"] f2 fd2) :
    FnOk P w K mg base CX0 4 f fd ["first", "second"] (spTwo K Ut03.near) := by
  refine D.F.ok scNear (fun vs H Q E h => ?_) (fun cdv A outer s H vs Q E hr h => ?_)
  · obtain ⟨p, q, a, b, rfl, _⟩ := h
    rfl
  · obtain ⟨p, q, a, b, rfl, hp, hq, hla, hlb, k⟩ := h
    refine ⟨_, pss_cons (ps_set (i := 2) scNear.nd rfl (Or.inl rfl) (pe_callB (call_max2 rfl) (by rfl) B.max (by decide +kernel) (pa_cons (pe_callB call_len_seq (by rfl) B.len PySem.boot_len (pa_cons (pv 0) pa_nil)) (pa_cons (pe_callB call_len_seq (by rfl) B.len PySem.boot_len (pa_cons (pv 1) pa_nil)) pa_nil))))
      (pss_cons (ps_if (pt_cmpR op_eq (pv 2) pe_int (nomark _)) (pss_one (ps_ret pe_int)) pss_nil)
      (pss_one (ps_ret (pe_op op_fdivN (pe_op op_mul pe_int (pe_op op_sub (pv 2) (pe_call (ok_dist B D0 D1 D2) hr rfl D0.g D0.F.kp D0.b .nil pass0 (pa_cons (pv 0) (pa_cons (pv 1) pa_nil))))) (pv 2))))), ?_⟩
    refine ⟨_, rfl, p, _, rfl, .inl hp, _, rfl, q, _, rfl, .inl hq, _, _, rfl, ?_⟩
    have hm : (if ((iv b).length : Int) > ((iv a).length : Int) then ((iv b).length : Int) else ((iv a).length : Int)) = ((max a.length b.length : Nat) : Int) := by
      rw [iv_len, iv_len]
      split <;> omega
    rw [hm]
    have kk : ∀ H', Same H H' → Q (.int (Ut03.near a b : Nat)) H' := k
    unfold Ut03.near at kk
    refine ⟨_, rfl, rfl, _, rfl, ?_⟩
    refine ite2 (fun c => ?_) (fun c => ?_)
    · have c' : max a.length b.length = 0 := by
        have z := of_decide_eq_true c
        injection z with z
        omega
      have e := kk H (Same.refl H)
      rw [if_pos c'] at e
      exact e
    · have c' : ¬ max a.length b.length = 0 := fun z => c (decide_eq_true (by rw [z]; rfl))
      have hd := distance_le a b
      refine ⟨_, rfl, _, rfl, _, rfl, p, q, a, b, rfl, hp, hq, hla, hlb, fun H1 s1 => ?_⟩
      refine ⟨_, _, rfl, rfl, _, _, rfl, rfl, .inl ⟨by decide, by decide⟩, _, rfl, _, _, rfl, rfl, ⟨by omega, by omega⟩, ?_⟩
      have e := kk H1 s1
      rw [if_neg c'] at e
      have e2 : Int.fdiv (100 * (((max a.length b.length : Nat) : Int) - ((Ut03.distance a b : Nat) : Int))) ((max a.length b.length : Nat) : Int) = ((100 * (max a.length b.length - Ut03.distance a b) / max a.length b.length : Nat) : Int) := by
        rw [Int.fdiv_eq_ediv_of_nonneg _ (by omega)]
        rw [Int.natCast_ediv, Int.natCast_mul, Int.natCast_sub hd]
        rfl
      rw [← e2] at e
      exact e
end
end TM

set_option Elab.async false
set_option linter.all false
set_option maxRecDepth 100000
set_option maxHeartbeats 2000000
namespace TM
open PySem PySem.Spec PyProof.Rows L2
theorem ifT {c : Bool} {A B : Prop} (hc : c = true) (h : A) : if c = true then A else B := by
  rw [if_pos hc]
  exact h
theorem ifF {c : Bool} {A B : Prop} (hc : c = false) (h : B) : if c = true then A else B := by
  rw [hc, if_neg Bool.false_ne_true]
  exact h
section
variable {P : Program} {w : World} {K : PySem.W.Frag} {mg : Sg → Option Value} {base : Heap}
/-! ### last_step -/
abbrev sStep : Stmt := top 15
def spStep (K : PySem.W.Frag) : Sp := fun vs H Q _ => ∃ (r p q : Addr) (a b : List Nat) (i j : Nat), vs = [.ref r, .ref p, .ref q] ∧ RowsAt K H r a b (a.length + 1) ∧ SqL K H p (iv (a.take i)) ∧ SqL K H q (iv (b.take j)) ∧ i ≤ a.length ∧ j ≤ b.length ∧ Q (.int (stepAt a b i j : Nat)) H
abbrev nStep : List Sg := ["rows", "first", "second", "i", "j", "distance"]
theorem scStep : FnScope nStep ["rows", "first", "second"] (defScope sStep) := ⟨rfl, rfl, rfl, by decide +kernel, rfl, by decide +kernel, by decide +kernel⟩
theorem take_len {l : List Nat} {i : Nat} (h : i ≤ l.length) : ((iv (l.take i)).length : Int) = (i : Int) := by
  rw [iv_len, List.length_take]
  omega
theorem take_last {l : List Nat} {i : Nat} (h : i ≤ l.length) (h0 : 0 < i) : (iv (l.take i))[i - 1]? = some (V.int (l.getD (i - 1) 0 : Nat)) := by
  refine iv_at ?_
  rw [List.getElem?_take_of_lt (by omega), List.getD_eq_getElem?_getD, List.getElem?_eq_getElem (by omega)]
  rfl
theorem vint_eq {x y : Int} : decide (V.int x = V.int y) = decide (x = y) := decide_eq_decide.mpr ⟨fun z => by injection z, fun z => by rw [z]⟩
theorem ok_step {f : Addr} {fd : FuncData} (B : Bt mg) (C : Cs mg) (D : DefAt K mg "last_step" sStep ["rows", "first", "second"] f fd) : FnOk P w K mg base CX0 1 f fd ["rows", "first", "second"] (spStep K) := by
  refine D.F.ok scStep (fun vs H Q E h => ?_) (fun cdv A outer s H vs Q E hr h => ?_)
  · obtain ⟨r, p, q, a, b, i, j, rfl, _⟩ := h
    rfl
  · obtain ⟨r, p, q, a, b, i, j, rfl, hR, hp, hq, hi, hj, k⟩ := h
    refine ⟨_, pss_cons (ps_set (i := 3) scStep.nd rfl (Or.inl rfl) (pe_callB call_len_seq (by rfl) B.len PySem.boot_len (pa_cons (pv 1) pa_nil)))
      (pss_cons (ps_set (i := 4) scStep.nd rfl (Or.inl rfl) (pe_callB call_len_seq (by rfl) B.len PySem.boot_len (pa_cons (pv 2) pa_nil)))
      (pss_cons (ps_set (i := 5) scStep.nd rfl (Or.inl rfl) (pe_ix ix_list (pe_ix ix_list (pv 0) (pv 3) (fun _ _ => rfl)) (pv 4) (fun _ _ => rfl)))
      (pss_cons (ps_if (PW.pt (pw_and (pt_cmpR op_gt (pv 3) pe_int (nomark _)) (pw_and1 (pt_cmpR op_gt (pv 4) pe_int (nomark _)))))
        (pss_cons (ps_if (PW.pt (pw_and (pt_cmpR op_eq (pe_ix ix_list (pv 1) (pe_op op_sub (pv 3) pe_int) (fun _ _ => rfl)) (pe_ix ix_list (pv 2) (pe_op op_sub (pv 4) pe_int) (fun _ _ => rfl)) (nomark _))
            (pw_and1 (pt_cmpR op_eq (pe_ix ix_list (pe_ix ix_list (pv 0) (pe_op op_sub (pv 3) pe_int) (fun _ _ => rfl)) (pe_op op_sub (pv 4) pe_int) (fun _ _ => rfl)) (pv 5) (nomark _)))))
          (pss_one (ps_ret (pe_gint rfl C.kept))) pss_nil)
        (pss_one (ps_if (pt_cmpR op_eq (pe_ix ix_list (pe_ix ix_list (pv 0) (pe_op op_sub (pv 3) pe_int) (fun _ _ => rfl)) (pe_op op_sub (pv 4) pe_int) (fun _ _ => rfl)) (pe_op op_sub (pv 5) pe_int) (nomark _))
          (pss_one (ps_ret (pe_gint rfl C.exch))) pss_nil))) pss_nil)
      (pss_cons (ps_if (PW.pt (pw_and (pt_cmpR op_gt (pv 3) pe_int (nomark _)) (pw_and1 (pt_cmpR op_eq (pe_ix ix_list (pe_ix ix_list (pv 0) (pe_op op_sub (pv 3) pe_int) (fun _ _ => rfl)) (pv 4) (fun _ _ => rfl)) (pe_op op_sub (pv 5) pe_int) (nomark _)))))
        (pss_one (ps_ret (pe_gint rfl C.out))) pss_nil)
      (pss_one (ps_ret (pe_gint rfl C.putIn))))))), ?_⟩
    obtain ⟨xs, t, h1, h2, h3⟩ := hR.row (i := i) (by omega)
    refine ⟨_, rfl, p, _, rfl, .inl hp, _, rfl, q, _, rfl, .inl hq, ?_⟩
    rw [take_len hi, take_len hj]
    refine ⟨_, rfl, _, rfl, r, _, _, _, rfl, rfl, h1, atI_nat h2, _, rfl, t, _, _, _, rfl, rfl, SqL.of h3, atI_nat (iv_at (levRow_at hj)), ?_⟩
    by_cases c0 : 0 < i ∧ 0 < j
    · obtain ⟨hi0, hj0⟩ := c0
      obtain ⟨ys, u, g1, g2, g3⟩ := hR.row (i := i - 1) (by omega)
      refine ⟨_, rfl, _, _, rfl, rfl, _, rfl, ?_⟩
      refine ifT (decide_eq_true (by omega)) ?_
      refine ⟨_, rfl, _, _, rfl, rfl, _, rfl, ?_⟩
      refine ifT (decide_eq_true (by omega)) ?_
      refine ⟨_, rfl, _, rfl, _, _, rfl, rfl, p, _, _, _, rfl, rfl, hp, at_of (j := i - 1) (by omega) (take_last hi hi0), _, rfl, _, rfl, _, _, rfl, rfl, q, _, _, _, rfl, rfl, hq, at_of (j := j - 1) (by omega) (take_last hj hj0), rfl, _, rfl, ?_⟩
      refine ite2 (fun c1 => ?_) (fun c1 => ?_)
      · have z1 := of_decide_eq_true (vint_eq ▸ c1)
        refine ⟨_, rfl, _, rfl, _, _, rfl, rfl, r, _, _, _, rfl, rfl, g1, at_of (j := i - 1) (by omega) g2, _, rfl, _, _, rfl, rfl, u, _, _, _, rfl, rfl, SqL.of g3, at_of (j := j - 1) (by omega) (iv_at (levRow_at (by omega))), _, rfl, rfl, _, rfl, ?_⟩
        refine ite2 (fun c4 => ?_) (fun c4 => ?_)
        · have z := of_decide_eq_true (vint_eq ▸ c4)
          have e : stepAt a b i j = 0 := by
            unfold stepAt
            rw [if_pos ⟨hi0, hj0, by omega, by omega⟩]
          rw [e] at k
          exact k
        · have n1 : ¬ (0 < i ∧ 0 < j ∧ a.getD (i - 1) 0 = b.getD (j - 1) 0 ∧ lev a b i j = lev a b (i - 1) (j - 1)) := fun z => c4 (vint_eq ▸ decide_eq_true (by omega))
          refine ⟨_, rfl, _, rfl, _, _, rfl, rfl, r, _, _, _, rfl, rfl, g1, at_of (j := i - 1) (by omega) g2, _, rfl, _, _, rfl, rfl, u, _, _, _, rfl, rfl, SqL.of g3, at_of (j := j - 1) (by omega) (iv_at (levRow_at (by omega))), _, rfl, _, _, rfl, rfl, rfl, _, rfl, ?_⟩
          refine ite2 (fun c2 => ?_) (fun c2 => ?_)
          · have z := of_decide_eq_true (vint_eq ▸ c2)
            have e : stepAt a b i j = 1 := by
              unfold stepAt
              rw [if_neg n1, if_pos ⟨hi0, hj0, by omega⟩]
            rw [e] at k
            exact k
          · have n2 : ¬ (0 < i ∧ 0 < j ∧ lev a b i j = lev a b (i - 1) (j - 1) + 1) := fun z => c2 (vint_eq ▸ decide_eq_true (by omega))
            by_cases hi1 : 0 < i
            · obtain ⟨zs, v, f1, f2, f3⟩ := hR.row (i := i - 1) (by omega)
              refine ⟨_, rfl, _, _, rfl, rfl, _, rfl, ?_⟩
              refine ifT (decide_eq_true (by omega)) ?_
              refine ⟨_, rfl, _, rfl, _, _, rfl, rfl, r, _, _, _, rfl, rfl, f1, at_of (j := i - 1) (by omega) f2, _, rfl, v, _, _, _, rfl, rfl, SqL.of f3, atI_nat (iv_at (levRow_at hj)), _, rfl, _, _, rfl, rfl, rfl, _, rfl, ?_⟩
              refine ite2 (fun c3 => ?_) (fun c3 => ?_)
              · have z := of_decide_eq_true (vint_eq ▸ c3)
                have e : stepAt a b i j = 2 := by
                  unfold stepAt
                  rw [if_neg n1, if_neg n2, if_pos ⟨hi1, by omega⟩]
                rw [e] at k
                exact k
              · have e : stepAt a b i j = 3 := by
                  unfold stepAt
                  rw [if_neg n1, if_neg n2, if_neg (fun z => c3 (vint_eq ▸ decide_eq_true (by omega)))]
                rw [e] at k
                exact k
            · refine ⟨_, rfl, _, _, rfl, rfl, _, rfl, ?_⟩
              refine ifF (decide_eq_false (by omega)) ?_
              have e : stepAt a b i j = 3 := by
                unfold stepAt
                rw [if_neg n1, if_neg n2, if_neg (fun z => hi1 z.1)]
              rw [e] at k
              exact k
      · have n1 : ¬ (0 < i ∧ 0 < j ∧ a.getD (i - 1) 0 = b.getD (j - 1) 0 ∧ lev a b i j = lev a b (i - 1) (j - 1)) := fun z => c1 (vint_eq ▸ decide_eq_true (by omega))
        refine ⟨_, rfl, _, rfl, _, _, rfl, rfl, r, _, _, _, rfl, rfl, g1, at_of (j := i - 1) (by omega) g2, _, rfl, _, _, rfl, rfl, u, _, _, _, rfl, rfl, SqL.of g3, at_of (j := j - 1) (by omega) (iv_at (levRow_at (by omega))), _, rfl, _, _, rfl, rfl, rfl, _, rfl, ?_⟩
        refine ite2 (fun c2 => ?_) (fun c2 => ?_)
        · have z := of_decide_eq_true (vint_eq ▸ c2)
          have e : stepAt a b i j = 1 := by
            unfold stepAt
            rw [if_neg n1, if_pos ⟨hi0, hj0, by omega⟩]
          rw [e] at k
          exact k
        · have n2 : ¬ (0 < i ∧ 0 < j ∧ lev a b i j = lev a b (i - 1) (j - 1) + 1) := fun z => c2 (vint_eq ▸ decide_eq_true (by omega))
          by_cases hi1 : 0 < i
          · obtain ⟨zs, v, f1, f2, f3⟩ := hR.row (i := i - 1) (by omega)
            refine ⟨_, rfl, _, _, rfl, rfl, _, rfl, ?_⟩
            refine ifT (decide_eq_true (by omega)) ?_
            refine ⟨_, rfl, _, rfl, _, _, rfl, rfl, r, _, _, _, rfl, rfl, f1, at_of (j := i - 1) (by omega) f2, _, rfl, v, _, _, _, rfl, rfl, SqL.of f3, atI_nat (iv_at (levRow_at hj)), _, rfl, _, _, rfl, rfl, rfl, _, rfl, ?_⟩
            refine ite2 (fun c3 => ?_) (fun c3 => ?_)
            · have z := of_decide_eq_true (vint_eq ▸ c3)
              have e : stepAt a b i j = 2 := by
                unfold stepAt
                rw [if_neg n1, if_neg n2, if_pos ⟨hi1, by omega⟩]
              rw [e] at k
              exact k
            · have e : stepAt a b i j = 3 := by
                unfold stepAt
                rw [if_neg n1, if_neg n2, if_neg (fun z => c3 (vint_eq ▸ decide_eq_true (by omega)))]
              rw [e] at k
              exact k
          · refine ⟨_, rfl, _, _, rfl, rfl, _, rfl, ?_⟩
            refine ifF (decide_eq_false (by omega)) ?_
            have e : stepAt a b i j = 3 := by
              unfold stepAt
              rw [if_neg n1, if_neg n2, if_neg (fun z => hi1 z.1)]
            rw [e] at k
            exact k
    · have n1 : ¬ (0 < i ∧ 0 < j ∧ a.getD (i - 1) 0 = b.getD (j - 1) 0 ∧ lev a b i j = lev a b (i - 1) (j - 1)) := fun z => c0 ⟨z.1, z.2.1⟩
      have n2 : ¬ (0 < i ∧ 0 < j ∧ lev a b i j = lev a b (i - 1) (j - 1) + 1) := fun z => c0 ⟨z.1, z.2.1⟩
      refine ⟨_, rfl, _, _, rfl, rfl, _, rfl, ?_⟩
      refine ite2 (fun c5 => ?_) (fun c5 => ?_)
      · have z := of_decide_eq_true c5
        refine ⟨_, rfl, _, _, rfl, rfl, _, rfl, ?_⟩
        refine ifF (decide_eq_false (by omega)) ?_
        by_cases hi1 : 0 < i
        · obtain ⟨zs, v, f1, f2, f3⟩ := hR.row (i := i - 1) (by omega)
          refine ⟨_, rfl, _, _, rfl, rfl, _, rfl, ?_⟩
          refine ifT (decide_eq_true (by omega)) ?_
          refine ⟨_, rfl, _, rfl, _, _, rfl, rfl, r, _, _, _, rfl, rfl, f1, at_of (j := i - 1) (by omega) f2, _, rfl, v, _, _, _, rfl, rfl, SqL.of f3, atI_nat (iv_at (levRow_at hj)), _, rfl, _, _, rfl, rfl, rfl, _, rfl, ?_⟩
          refine ite2 (fun c3 => ?_) (fun c3 => ?_)
          · have z := of_decide_eq_true (vint_eq ▸ c3)
            have e : stepAt a b i j = 2 := by
              unfold stepAt
              rw [if_neg n1, if_neg n2, if_pos ⟨hi1, by omega⟩]
            rw [e] at k
            exact k
          · have e : stepAt a b i j = 3 := by
              unfold stepAt
              rw [if_neg n1, if_neg n2, if_neg (fun z => c3 (vint_eq ▸ decide_eq_true (by omega)))]
            rw [e] at k
            exact k
        · refine ⟨_, rfl, _, _, rfl, rfl, _, rfl, ?_⟩
          refine ifF (decide_eq_false (by omega)) ?_
          have e : stepAt a b i j = 3 := by
            unfold stepAt
            rw [if_neg n1, if_neg n2, if_neg (fun z => hi1 z.1)]
          rw [e] at k
          exact k
      · by_cases hi1 : 0 < i
        · obtain ⟨zs, v, f1, f2, f3⟩ := hR.row (i := i - 1) (by omega)
          refine ⟨_, rfl, _, _, rfl, rfl, _, rfl, ?_⟩
          refine ifT (decide_eq_true (by omega)) ?_
          refine ⟨_, rfl, _, rfl, _, _, rfl, rfl, r, _, _, _, rfl, rfl, f1, at_of (j := i - 1) (by omega) f2, _, rfl, v, _, _, _, rfl, rfl, SqL.of f3, atI_nat (iv_at (levRow_at hj)), _, rfl, _, _, rfl, rfl, rfl, _, rfl, ?_⟩
          refine ite2 (fun c3 => ?_) (fun c3 => ?_)
          · have z := of_decide_eq_true (vint_eq ▸ c3)
            have e : stepAt a b i j = 2 := by
              unfold stepAt
              rw [if_neg n1, if_neg n2, if_pos ⟨hi1, by omega⟩]
            rw [e] at k
            exact k
          · have e : stepAt a b i j = 3 := by
              unfold stepAt
              rw [if_neg n1, if_neg n2, if_neg (fun z => c3 (vint_eq ▸ decide_eq_true (by omega)))]
            rw [e] at k
            exact k
        · refine ⟨_, rfl, _, _, rfl, rfl, _, rfl, ?_⟩
          refine ifF (decide_eq_false (by omega)) ?_
          have e : stepAt a b i j = 3 := by
            unfold stepAt
            rw [if_neg n1, if_neg n2, if_neg (fun z => hi1 z.1)]
          rw [e] at k
          exact k
end
end TM

set_option Elab.async false
set_option linter.all false
set_option maxRecDepth 100000
set_option maxHeartbeats 2000000
namespace TM
open PySem PySem.Spec PyProof.Rows L2
theorem cut_take (xs : List V) {i : Nat} (h : i ≤ xs.length) : cutV xs none (some (i : Int)) = xs.take i := by
  unfold cutV
  have e1 : HT.sIx xs.length 0 none = 0 := rfl
  have e2 : HT.sIx xs.length xs.length (some (i : Int)) = i := by
    rw [HT.sIx_nat]
    omega
  rw [e1, e2, List.drop_zero, Nat.sub_zero]
theorem cut_iv {l : List Nat} {i : Nat} (h : i ≤ l.length) : cutV (iv l) none (some (i : Int)) = iv (l.take i) := by
  rw [cut_take _ (by rw [iv_len]; exact h)]
  unfold iv
  rw [List.map_take]
theorem step_i {a b : List Nat} {i j : Nat} (h : stepAt a b i j ≠ 3) : 0 < i := by
  refine Nat.pos_of_ne_zero fun z => h ?_
  unfold stepAt
  rw [if_neg (fun y => absurd y.1 (by omega)), if_neg (fun y => absurd y.1 (by omega)), if_neg (fun y => absurd y.1 (by omega))]
theorem step_j {a b : List Nat} {i j : Nat} (h0 : ¬ (i = 0 ∧ j = 0)) (h : stepAt a b i j ≠ 2) : 0 < j := by
  have q := step_lt a b h0
  unfold nextJ at q
  rw [if_neg h] at q
  have q2 := nextI_le (stepAt a b i j) i
  refine Nat.pos_of_ne_zero fun z => ?_
  subst z
  by_cases c : stepAt a b i 0 = 3
  · rw [c] at q
    unfold nextI at q
    simp at q
  · have hi := step_i c
    unfold stepAt at h
    rw [if_neg (fun y => absurd y.2.1 (by omega)), if_neg (fun y => absurd y.2.1 (by omega))] at h
    obtain ⟨i', rfl⟩ : ∃ i', i = i' + 1 := ⟨i - 1, by omega⟩
    exact h (if_pos ⟨hi, by rw [lev_succ_zero, Nat.add_sub_cancel, lev_i_zero]⟩)
section
variable {P : Program} {w : World} {K : PySem.W.Frag} {mg : Sg → Option Value} {base : Heap}
/-! ### way_between -/
abbrev sWay : Stmt := top 14
def spWay (K : PySem.W.Frag) : Sp := fun vs H Q _ => ∃ (p q : Addr) (a b : List Nat), vs = [.ref p, .ref q] ∧ SqL K H p (iv a) ∧ SqL K H q (iv b) ∧ a.length ≤ 1000 ∧ b.length ≤ 1000 ∧
  ∀ (H' : Hp) (r : Addr), Same H H' → H r = none → H' r = some (.lst (iv (Ut03.way a b))) → Q (.ref r) H'
abbrev nWay : List Sg := ["first", "second", "rows", "first_left", "second_left", "steps", "step"]
theorem scWay : FnScope nWay ["first", "second"] (defScope sWay) := ⟨rfl, rfl, rfl, by decide +kernel, rfl, by decide +kernel, by decide +kernel⟩
theorem ok_way {f f0 f1 f2 : Addr} {fd fd0 fd1 fd2 : FuncData} (B : Bt mg) (C : Cs mg) (D : DefAt K mg "way_between" sWay ["first", "second"] f fd) (D0 : DefAt K mg "last_step" sStep ["rows", "first", "second"] f0 fd0) (D1 : DefAt K mg "distance_rows" sRows ["first", "second"] f1 fd1) (D2 : DefAt K mg "row_with_word" sRow ["above", "word", "second"] f2 fd2) :
    FnOk P w K mg base CX0 3 f fd ["first", "second"] (spWay K) := by
  refine D.F.ok scWay (fun vs H Q E h => ?_) (fun cdv A outer s H vs Q E hr h => ?_)
  · obtain ⟨p, q, a, b, rfl, _⟩ := h
    rfl
  · obtain ⟨p, q, a, b, rfl, hp, hq, hla, hlb, k⟩ := h
    have hr1 : Room 1 _ := hr.mono (by decide)
    refine ⟨_, pss_cons (ps_set (i := 2) scWay.nd rfl (Or.inl rfl) (pe_call (ok_rows B D1 D2) hr rfl D1.g D1.F.kp D1.b .nil pass0 (pa_cons (pv 0) (pa_cons (pv 1) pa_nil))))
      (pss_cons (ps_set (i := 3) scWay.nd rfl (Or.inl rfl) (pe_callB call_len_seq (by rfl) B.len PySem.boot_len (pa_cons (pv 0) pa_nil)))
      (pss_cons (ps_set (i := 4) scWay.nd rfl (Or.inl rfl) (pe_callB call_len_seq (by rfl) B.len PySem.boot_len (pa_cons (pv 1) pa_nil)))
      (pss_cons (ps_set (i := 5) scWay.nd rfl (Or.inl rfl) (pe_lst pa_nil))
      (pss_cons (ps_while PassesOwn.never (PW.pt (pw_or (pt_cmpR op_gt (pv 3) pe_int (nomark _)) (pw_or1 (pt_cmpR op_gt (pv 4) pe_int (nomark _)))))
        (pss_cons (ps_set (i := 6) scWay.nd rfl (Or.inl rfl) (pe_call (ok_step B C D0) hr1 rfl D0.g D0.F.kp D0.b .nil pass0 (pa_cons (pv 2) (pa_cons (pe_slice sl_list (pv 0) po_none (po_some (pv 3))) (pa_cons (pe_slice sl_list (pv 1) po_none (po_some (pv 4))) pa_nil)))))
        (pss_cons (ps_expr (pe_bm PySem.F.plainAttrs_list PySem.F.slot_list_append PySem.F.type_list_append mt_append (pv 5) (pa_cons (pv 6) pa_nil)))
        (pss_cons (ps_if (pt_cmpR op_ne (pv 6) (pe_gint rfl C.putIn) (nomark _)) (pss_one (ps_set (i := 3) scWay.nd rfl (Or.inl rfl) (pe_op op_sub (pv 3) pe_int))) pss_nil)
        (pss_one (ps_if (pt_cmpR op_ne (pv 6) (pe_gint rfl C.out) (nomark _)) (pss_one (ps_set (i := 4) scWay.nd rfl (Or.inl rfl) (pe_op op_sub (pv 4) pe_int))) pss_nil))))))
      (pss_one (ps_ret (pe_lstRev rfl rfl B.list rfl B.reversed (pv 5)))))))), ?_⟩
    refine ⟨_, rfl, _, rfl, p, q, a, b, rfl, hp, hq, hla, hlb, fun H1 r s1 R1 => ?_⟩
    refine ⟨_, rfl, p, _, rfl, .inl (s1.seq hp), _, rfl, q, _, rfl, .inl (s1.seq hq), Nat.zero_le _, fun st hst => ?_⟩
    rw [iv_len, iv_len]
    have hst0 : H st = none := s1.free hst
    refine while_by (fun σ H2 => ∃ (i j : Nat) (v6 : Option V) (ss : List Nat) (f : Nat), σ = [some (.ref p), some (.ref q), some (.ref r), some (.int (i : Int)), some (.int (j : Int)), some (.ref st), v6] ∧ i ≤ a.length ∧ j ≤ b.length ∧ i + j ≤ f ∧
      Same H1 H2 ∧ H2 st = some (.lst (iv ss)) ∧ ss.length + i + j ≤ a.length + b.length ∧ Ut03.way a b = Ut03.wayFrom (Ut03.table a b) a b f i j ++ ss.reverse) (fun σ _ => match σ with | [_, _, _, some (.int i), some (.int j), _, _] => (i + j).toNat | _ => 0) ?_ ?_ ?_
    · refine ⟨a.length, b.length, none, [], a.length + b.length + 1, rfl, Nat.le_refl _, Nat.le_refl _, by omega, Same.new hst, upd_same, by simp, ?_⟩
      rw [List.reverse_nil, List.append_nil]
      rfl
    · rintro σ H2 ⟨i, j, v6, ss, f, rfl, hi, hj, hf, s2, d2, hss, hw⟩
      refine ⟨_, rfl, _, _, rfl, rfl, _, rfl, ?_⟩
      by_cases ci : 0 < i
      · refine ifT (decide_eq_true (by omega)) ?_
        refine iteT ?_
        have h0 : ¬ (i = 0 ∧ j = 0) := by omega
        obtain ⟨f', rfl⟩ : ∃ f', f = f' + 1 := ⟨f - 1, by omega⟩
        rw [wayFrom_step a b hi hj h0] at hw
        have hlt := step_lt a b h0
        refine ⟨_, rfl, _, rfl, _, rfl, _, rfl, p, _, rfl, (s1.trans s2).seq hp, fun u hu => ?_⟩
        rw [cut_iv hi]
        have su : Same H2 (upd H2 u (.lst (iv (a.take i)))) := Same.new hu
        refine ⟨_, rfl, _, rfl, _, rfl, q, _, rfl, ((s1.trans s2).trans su).seq hq, fun v hv => ?_⟩
        rw [cut_iv hj]
        have sv : Same H2 (upd (upd H2 u (.lst (iv (a.take i)))) v (.lst (iv (b.take j)))) := su.trans (Same.new hv)
        have nuv : u ≠ v := fun z => by rw [← z, upd_same] at hv; cases hv
        refine ⟨r, u, v, a, b, i, j, rfl, (R1.same s2).same sv, SqL.of ((upd_ne nuv).trans upd_same), SqL.of upd_same, hi, hj, ?_⟩
        have d3 := sv _ _ d2
        refine ⟨_, rfl, .inl ⟨rfl, _, SqL.of d3⟩, _, rfl, st, _, _, rfl, rfl, d3, small (by rw [iv_len]; omega), ?_⟩
        have s3 : Same H1 (upd (upd (upd H2 u (.lst (iv (a.take i)))) v (.lst (iv (b.take j)))) st (.lst (iv ss ++ [V.int (stepAt a b i j : Nat)]))) := Same.over (s2.trans sv) hst
        have q1 : upd (upd (upd H2 u (.lst (iv (a.take i)))) v (.lst (iv (b.take j)))) st (.lst (iv ss ++ [V.int (stepAt a b i j : Nat)])) st = some (.lst (iv (ss ++ [stepAt a b i j]))) := by
          rw [upd_same]
          unfold iv
          rw [List.map_append]
          rfl
        have q2 : Ut03.way a b = Ut03.wayFrom (Ut03.table a b) a b f' (nextI (stepAt a b i j) i) (nextJ (stepAt a b i j) j) ++ (ss ++ [stepAt a b i j]).reverse := by
          rw [hw, List.reverse_append, List.append_assoc]
          rfl
        have hni := nextI_le (stepAt a b i j) i
        have hnj := nextJ_le (stepAt a b i j) j
        by_cases e3 : stepAt a b i j = 3
        · have hj0 := step_j h0 (show stepAt a b i j ≠ 2 by omega)
          rw [e3] at q1 q2 s3 hlt ⊢
          refine ⟨_, rfl, rfl, _, rfl, ?_⟩
          refine ifF rfl ?_
          refine ⟨_, rfl, rfl, _, rfl, ?_⟩
          refine ifT rfl ?_
          refine ⟨_, rfl, _, _, rfl, rfl, ?_⟩
          refine ⟨⟨i, j - 1, some (V.int ((3 : Nat) : Int)), ss ++ [3], f', ?_, hi, by omega, by omega, s3, q1, by rw [List.length_append, List.length_singleton]; omega, q2⟩, ?_⟩
          · have ej : ((j : Int) - 1) = ((j - 1 : Nat) : Int) := by omega
            show [_, _, _, _, some (V.int ((j : Int) - 1)), _, _] = _
            rw [ej]
          · show ((i : Int) + ((j : Int) - 1)).toNat < ((i : Int) + (j : Int)).toNat
            omega
        · have hi0 := step_i e3
          have c3 : (!decide (V.int (stepAt a b i j : Nat) = V.int 3)) = true := by rw [vint_eq, decide_eq_false (by omega)]; rfl
          refine ⟨_, rfl, rfl, _, rfl, ?_⟩
          refine ifT c3 ?_
          have ei : ((i : Int) - 1) = ((i - 1 : Nat) : Int) := by omega
          by_cases e2 : stepAt a b i j = 2
          · rw [e2] at q1 q2 s3 hlt ⊢
            refine ⟨_, rfl, _, _, rfl, rfl, _, rfl, rfl, _, rfl, ?_⟩
            refine ifF rfl ?_
            refine ⟨⟨i - 1, j, some (V.int ((2 : Nat) : Int)), ss ++ [2], f', ?_, by omega, hj, by omega, s3, q1, by rw [List.length_append, List.length_singleton]; omega, q2⟩, ?_⟩
            · show [_, _, _, some (V.int ((i : Int) - 1)), _, _, _] = _
              rw [ei]
            · show (((i : Int) - 1) + (j : Int)).toNat < ((i : Int) + (j : Int)).toNat
              omega
          · have hj0 := step_j h0 e2
            have c2 : (!decide (V.int (stepAt a b i j : Nat) = V.int 2)) = true := by rw [vint_eq, decide_eq_false (by omega)]; rfl
            refine ⟨_, rfl, _, _, rfl, rfl, _, rfl, rfl, _, rfl, ?_⟩
            refine ifT c2 ?_
            refine ⟨_, rfl, _, _, rfl, rfl, ?_⟩
            have ej : ((j : Int) - 1) = ((j - 1 : Nat) : Int) := by omega
            have eI : nextI (stepAt a b i j) i = i - 1 := if_neg e3
            have eJ : nextJ (stepAt a b i j) j = j - 1 := if_neg e2
            rw [eI, eJ] at q2
            refine ⟨⟨i - 1, j - 1, some (V.int (stepAt a b i j : Nat)), ss ++ [stepAt a b i j], f', ?_, by omega, by omega, by omega, s3, q1, by rw [List.length_append, List.length_singleton]; omega, q2⟩, ?_⟩
            · show [_, _, _, some (V.int ((i : Int) - 1)), some (V.int ((j : Int) - 1)), _, _] = _
              rw [ei, ej]
            · show (((i : Int) - 1) + ((j : Int) - 1)).toNat < ((i : Int) + (j : Int)).toNat
              omega
      · refine ifF (decide_eq_false (by omega)) ?_
        refine ⟨_, rfl, _, _, rfl, rfl, _, rfl, ?_⟩
        by_cases cj : 0 < j
        · refine ifT (decide_eq_true (by omega)) ?_
          have h0 : ¬ (i = 0 ∧ j = 0) := by omega
          obtain ⟨f', rfl⟩ : ∃ f', f = f' + 1 := ⟨f - 1, by omega⟩
          rw [wayFrom_step a b hi hj h0] at hw
          have hlt := step_lt a b h0
          refine ⟨_, rfl, _, rfl, _, rfl, _, rfl, p, _, rfl, (s1.trans s2).seq hp, fun u hu => ?_⟩
          rw [cut_iv hi]
          have su : Same H2 (upd H2 u (.lst (iv (a.take i)))) := Same.new hu
          refine ⟨_, rfl, _, rfl, _, rfl, q, _, rfl, ((s1.trans s2).trans su).seq hq, fun v hv => ?_⟩
          rw [cut_iv hj]
          have sv : Same H2 (upd (upd H2 u (.lst (iv (a.take i)))) v (.lst (iv (b.take j)))) := su.trans (Same.new hv)
          have nuv : u ≠ v := fun z => by rw [← z, upd_same] at hv; cases hv
          refine ⟨r, u, v, a, b, i, j, rfl, (R1.same s2).same sv, SqL.of ((upd_ne nuv).trans upd_same), SqL.of upd_same, hi, hj, ?_⟩
          have d3 := sv _ _ d2
          refine ⟨_, rfl, .inl ⟨rfl, _, SqL.of d3⟩, _, rfl, st, _, _, rfl, rfl, d3, small (by rw [iv_len]; omega), ?_⟩
          have s3 : Same H1 (upd (upd (upd H2 u (.lst (iv (a.take i)))) v (.lst (iv (b.take j)))) st (.lst (iv ss ++ [V.int (stepAt a b i j : Nat)]))) := Same.over (s2.trans sv) hst
          have q1 : upd (upd (upd H2 u (.lst (iv (a.take i)))) v (.lst (iv (b.take j)))) st (.lst (iv ss ++ [V.int (stepAt a b i j : Nat)])) st = some (.lst (iv (ss ++ [stepAt a b i j]))) := by
            rw [upd_same]
            unfold iv
            rw [List.map_append]
            rfl
          have q2 : Ut03.way a b = Ut03.wayFrom (Ut03.table a b) a b f' (nextI (stepAt a b i j) i) (nextJ (stepAt a b i j) j) ++ (ss ++ [stepAt a b i j]).reverse := by
            rw [hw, List.reverse_append, List.append_assoc]
            rfl
          have hni := nextI_le (stepAt a b i j) i
          have hnj := nextJ_le (stepAt a b i j) j
          by_cases e3 : stepAt a b i j = 3
          · have hj0 := step_j h0 (show stepAt a b i j ≠ 2 by omega)
            rw [e3] at q1 q2 s3 hlt ⊢
            refine ⟨_, rfl, rfl, _, rfl, ?_⟩
            refine ifF rfl ?_
            refine ⟨_, rfl, rfl, _, rfl, ?_⟩
            refine ifT rfl ?_
            refine ⟨_, rfl, _, _, rfl, rfl, ?_⟩
            refine ⟨⟨i, j - 1, some (V.int ((3 : Nat) : Int)), ss ++ [3], f', ?_, hi, by omega, by omega, s3, q1, by rw [List.length_append, List.length_singleton]; omega, q2⟩, ?_⟩
            · have ej : ((j : Int) - 1) = ((j - 1 : Nat) : Int) := by omega
              show [_, _, _, _, some (V.int ((j : Int) - 1)), _, _] = _
              rw [ej]
            · show ((i : Int) + ((j : Int) - 1)).toNat < ((i : Int) + (j : Int)).toNat
              omega
          · have hi0 := step_i e3
            have c3 : (!decide (V.int (stepAt a b i j : Nat) = V.int 3)) = true := by rw [vint_eq, decide_eq_false (by omega)]; rfl
            refine ⟨_, rfl, rfl, _, rfl, ?_⟩
            refine ifT c3 ?_
            have ei : ((i : Int) - 1) = ((i - 1 : Nat) : Int) := by omega
            by_cases e2 : stepAt a b i j = 2
            · rw [e2] at q1 q2 s3 hlt ⊢
              refine ⟨_, rfl, _, _, rfl, rfl, _, rfl, rfl, _, rfl, ?_⟩
              refine ifF rfl ?_
              refine ⟨⟨i - 1, j, some (V.int ((2 : Nat) : Int)), ss ++ [2], f', ?_, by omega, hj, by omega, s3, q1, by rw [List.length_append, List.length_singleton]; omega, q2⟩, ?_⟩
              · show [_, _, _, some (V.int ((i : Int) - 1)), _, _, _] = _
                rw [ei]
              · show (((i : Int) - 1) + (j : Int)).toNat < ((i : Int) + (j : Int)).toNat
                omega
            · have hj0 := step_j h0 e2
              have c2 : (!decide (V.int (stepAt a b i j : Nat) = V.int 2)) = true := by rw [vint_eq, decide_eq_false (by omega)]; rfl
              refine ⟨_, rfl, _, _, rfl, rfl, _, rfl, rfl, _, rfl, ?_⟩
              refine ifT c2 ?_
              refine ⟨_, rfl, _, _, rfl, rfl, ?_⟩
              have ej : ((j : Int) - 1) = ((j - 1 : Nat) : Int) := by omega
              have eI : nextI (stepAt a b i j) i = i - 1 := if_neg e3
              have eJ : nextJ (stepAt a b i j) j = j - 1 := if_neg e2
              rw [eI, eJ] at q2
              refine ⟨⟨i - 1, j - 1, some (V.int (stepAt a b i j : Nat)), ss ++ [stepAt a b i j], f', ?_, by omega, by omega, by omega, s3, q1, by rw [List.length_append, List.length_singleton]; omega, q2⟩, ?_⟩
              · show [_, _, _, some (V.int ((i : Int) - 1)), some (V.int ((j : Int) - 1)), _, _] = _
                rw [ei, ej]
              · show (((i : Int) - 1) + ((j : Int) - 1)).toNat < ((i : Int) + (j : Int)).toNat
                omega
        · refine ifF (decide_eq_false (by omega)) ?_
          have ei : i = 0 := by omega
          have ej : j = 0 := by omega
          subst ei ej
          rw [way_done, List.nil_append] at hw
          refine ⟨_, rfl, st, _, rfl, SqL.of d2, fun z hz => ?_⟩
          refine k _ z ((s1.trans s2).trans (Same.new hz)) ((s1.trans s2).free hz) ?_
          rw [upd_same, hw]
          unfold iv
          rw [List.map_reverse]
    · rintro σ H2 Q1 Q2 hq ⟨v, e, x, y, e1, e2, c, e3, h⟩
      refine ⟨v, e, x, y, e1, e2, c, e3, ?_⟩
      refine ite2 (fun z => hq _ _ ((if_pos z).mp h)) (fun z => ?_)
      obtain ⟨v, e, x, y, e1, e2, c, e3, h⟩ := (if_neg z).mp h
      exact ⟨v, e, x, y, e1, e2, c, e3, hq _ _ h⟩
end
end TM

set_option Elab.async false
set_option linter.all false
set_option maxRecDepth 100000
set_option maxHeartbeats 2000000
namespace TM
open PySem PySem.Spec PyProof.Rows L2
/-! ### Lists of numbers as data -/
def pd (l : List Nat) : PyData := .list (l.map fun (n : Nat) => PyData.int (n : Int))
theorem dpAll_iv {K : PySem.W.Frag} {H : Hp} : ∀ l : List Nat, DpAll K H (iv l) (l.map fun (n : Nat) => PyData.int (n : Int))
  | [] => .nil
  | n :: l => .cons (.int _) (dpAll_iv l)
theorem dp_iv {K : PySem.W.Frag} {H : Hp} {a : Addr} {l : List Nat} (h : SqL K H a (iv l)) : Dp K H (.ref a) (pd l) := .lst h (dpAll_iv l)
theorem lay_iv : ∀ l : List Nat, PyData.canLayAll0 (l.map fun (n : Nat) => PyData.int (n : Int)) = true ∧ PyData.depthAll (l.map fun (n : Nat) => PyData.int (n : Int)) = 0
  | [] => ⟨by simp [PyData.canLayAll0], by simp [PyData.depthAll]⟩
  | n :: l => by
    obtain ⟨h1, h2⟩ := lay_iv l
    refine ⟨?_, ?_⟩
    · rw [List.map_cons, PyData.canLayAll0, h1]
      simp [PyData.canLay0]
    · rw [List.map_cons, PyData.depthAll, h2]
      simp [PyData.depth]
theorem pd_lay (l : List Nat) : PyData.canLay0 (pd l) = true := by
  unfold pd
  rw [PyData.canLay0]
  exact (lay_iv l).1
theorem pd_depth (l : List Nat) : PyData.depth (pd l) = 1 := by
  unfold pd
  rw [PyData.depth, (lay_iv l).2]
theorem pd_shaped (l : List Nat) : SeqAt.shaped (pd l) = true := by
  unfold SeqAt.shaped
  rw [pd_lay, pd_depth]
  rfl
theorem eqvAll_iv : ∀ l m : List Nat, PyData.eqvAll (l.map fun (n : Nat) => PyData.int (n : Int)) (m.map fun (n : Nat) => PyData.int (n : Int)) = decide (l = m)
  | [], [] => by simp [PyData.eqvAll]
  | [], y :: m => by simp [PyData.eqvAll]
  | x :: l, [] => by simp [PyData.eqvAll]
  | x :: l, y :: m => by
    rw [List.map_cons, List.map_cons, PyData.eqvAll, eqvAll_iv l m, PyData.eqv]
    by_cases h : x = y
    · subst h
      simp
    · have e : ((x : Int) == (y : Int)) = false := beq_eq_false_iff_ne.mpr (by omega)
      rw [e, decide_eq_false (fun z => h (List.cons.inj z).1)]
      rfl
theorem eqv_pd (l m : List Nat) : PyData.eqv (pd l) (pd m) = decide (l = m) := by
  unfold pd
  rw [PyData.eqv, eqvAll_iv]
theorem lays : ∀ ls : List (List Nat), PyData.canLayAll0 (ls.map pd) = true ∧ PyData.depthAll (ls.map pd) ≤ 1
  | [] => ⟨by simp [PyData.canLayAll0], by simp [PyData.depthAll]⟩
  | l :: ls => by
    obtain ⟨h1, h2⟩ := lays ls
    refine ⟨?_, ?_⟩
    · rw [List.map_cons, PyData.canLayAll0, h1, pd_lay]
      rfl
    · rw [List.map_cons, PyData.depthAll, pd_depth]
      omega
theorem pds_shaped (ls : List (List Nat)) : SeqAt.shaped (.list (ls.map pd)) = true := by
  obtain ⟨h1, h2⟩ := lays ls
  unfold SeqAt.shaped
  rw [PyData.canLay0, PyData.depth, h1, decide_eq_true (by omega)]
  rfl
theorem any_pd (ls : List (List Nat)) (l : List Nat) : ((ls.map pd).any fun z => PyData.eqv z (pd l)) = ls.contains l := by
  rw [List.any_map, List.contains_eq_any_beq]
  refine congrArg (fun f => ls.any f) ?_
  funext m
  show PyData.eqv (pd m) (pd l) = (l == m)
  rw [eqv_pd]
  by_cases h : m = l
  · subst h
    simp
  · rw [decide_eq_false h]
    exact (beq_eq_false_iff_ne.mpr fun z => h z.symm).symm
/-! ### Two lists, item by item -/
inductive All2 {α β : Type} (R : α → β → Prop) : List α → List β → Prop
  | nil : All2 R [] []
  | cons {x : α} {y : β} {l : List α} {m : List β} : R x y → All2 R l m → All2 R (x :: l) (y :: m)
namespace All2
variable {α β : Type} {R S : α → β → Prop}
theorem len : ∀ {l : List α} {m : List β}, All2 R l m → l.length = m.length
  | _, _, .nil => rfl
  | _, _, .cons _ h => congrArg (· + 1) h.len
theorem imp (f : ∀ x y, R x y → S x y) : ∀ {l : List α} {m : List β}, All2 R l m → All2 S l m
  | _, _, .nil => .nil
  | _, _, .cons r h => .cons (f _ _ r) (imp f h)
theorem get : ∀ {l : List α} {m : List β} {i : Nat} {x : α}, All2 R l m → l[i]? = some x → ∃ y, m[i]? = some y ∧ R x y
  | _, _, i, x, .nil, h => by simp at h
  | _, _, 0, x, .cons r _, h => by
    have e := Option.some.inj h
    subst e
    exact ⟨_, rfl, r⟩
  | _, _, i + 1, x, .cons _ t, h => get (i := i) t h
theorem mem : ∀ {l : List α} {m : List β} {x : α}, All2 R l m → x ∈ l → ∃ y ∈ m, R x y
  | _, _, x, .cons r t, h => by
    rcases List.mem_cons.mp h with e | hm
    · subst e
      exact ⟨_, List.mem_cons_self .., r⟩
    · obtain ⟨y, h1, h2⟩ := t.mem hm
      exact ⟨y, List.mem_cons_of_mem _ h1, h2⟩
theorem snoc {x : α} {y : β} (r : R x y) : ∀ {l : List α} {m : List β}, All2 R l m → All2 R (l ++ [x]) (m ++ [y])
  | _, _, .nil => .cons r .nil
  | _, _, .cons s h => .cons s (snoc r h)
theorem perm : ∀ {l l' : List α} {m : List β}, l'.Perm l → All2 R l m → ∃ m', m'.Perm m ∧ All2 R l' m' := by
  intro l l' m p
  induction p generalizing m with
  | nil =>
    intro h
    exact ⟨m, List.Perm.refl _, h⟩
  | cons x p ih =>
    intro h
    cases h with
    | cons r t =>
      obtain ⟨m', h1, h2⟩ := ih t
      exact ⟨_ :: m', h1.cons _, .cons r h2⟩
  | swap x y l =>
    intro h
    cases h with
    | cons r t =>
      cases t with
      | cons r2 t2 => exact ⟨_, List.Perm.swap _ _ _, .cons r2 (.cons r t2)⟩
  | trans p q ih1 ih2 =>
    intro h
    obtain ⟨m1, h1, h2⟩ := ih2 h
    obtain ⟨m2, h3, h4⟩ := ih1 h2
    exact ⟨m2, h3.trans h1, h4⟩
theorem rev : ∀ {l : List α} {m : List β}, All2 R l m → All2 R l.reverse m.reverse
  | _, _, .nil => .nil
  | x :: l, y :: m, .cons r t => by
    rw [List.reverse_cons, List.reverse_cons (a := y)]
    exact snoc r t.rev
theorem pair {l : List α} {m : List β} (U : β → β → Prop) (T : α → α → Prop) (f : ∀ x x' y y', R x y → R x' y' → T x x' → U y y') : All2 R l m → l.Pairwise T → m.Pairwise U := by
  intro h
  induction h with
  | nil => exact fun _ => .nil
  | cons r t ih =>
    intro p
    obtain ⟨p1, p2⟩ := List.pairwise_cons.mp p
    refine List.pairwise_cons.mpr ⟨fun z hz => ?_, ih p2⟩
    have mem2 : ∀ {l : List α} {m : List β} {z : β}, All2 R l m → z ∈ m → ∃ x ∈ l, R x z := by
      intro l m z h
      induction h with
      | nil => exact fun q => absurd q (by simp)
      | cons r t ih =>
        intro q
        rcases List.mem_cons.mp q with e | qm
        · subst e
          exact ⟨_, List.mem_cons_self .., r⟩
        · obtain ⟨x, h1, h2⟩ := ih qm
          exact ⟨x, List.mem_cons_of_mem _ h1, h2⟩
    obtain ⟨x, hx, rx⟩ := mem2 t hz
    exact f _ _ _ _ r rx (p1 x hx)
end All2
/-! ### Fields -/
theorem lk_here {k : Sg} {v : V} {r : List (Sg × V)} : List.lookup k ((k, v) :: r) = some v := by
  have e : (k == k) = true := beq_self_eq_true k
  simp only [List.lookup, e]
theorem lk_past {k g : Sg} {v : V} {r : List (Sg × V)} (h : (k == g) = false) : List.lookup k ((g, v) :: r) = List.lookup k r := by
  simp only [List.lookup, h]
theorem put_here {f : Sg} {v x : V} {r : List (Sg × V)} : putF f v ((f, x) :: r) = (f, v) :: r := if_pos rfl
theorem put_past {f g : Sg} {v x : V} {r : List (Sg × V)} (h : ¬ g = f) : putF f v ((g, x) :: r) = (g, x) :: putF f v r := if_neg h
def askF (q : Ut03.Ask) (p : Addr) : List (Sg × V) := [("ahead", .int (q.ahead : Int)), ("behind", .int (q.behind : Int)), ("client", .int (q.client : Int)), ("sentence", .ref p)]
theorem askF_ahead (q : Ut03.Ask) (p : Addr) : (askF q p).lookup ("ahead" : Sg) = some (.int (q.ahead : Int)) := lk_here
theorem askF_behind (q : Ut03.Ask) (p : Addr) : (askF q p).lookup ("behind" : Sg) = some (.int (q.behind : Int)) := (lk_past (by decide +kernel)).trans lk_here
theorem askF_client (q : Ut03.Ask) (p : Addr) : (askF q p).lookup ("client" : Sg) = some (.int (q.client : Int)) := (lk_past (by decide +kernel)).trans ((lk_past (by decide +kernel)).trans lk_here)
theorem askF_sentence (q : Ut03.Ask) (p : Addr) : (askF q p).lookup ("sentence" : Sg) = some (.ref p) := (lk_past (by decide +kernel)).trans ((lk_past (by decide +kernel)).trans ((lk_past (by decide +kernel)).trans lk_here))
theorem put4 {f1 f2 f3 f4 : Sg} {v1 v2 v3 v4 : V} (h12 : ¬ f1 = f2) (h13 : ¬ f1 = f3) (h14 : ¬ f1 = f4) (h23 : ¬ f2 = f3) (h24 : ¬ f2 = f4) (h34 : ¬ f3 = f4) : putF f4 v4 (putF f3 v3 (putF f2 v2 (putF f1 v1 []))) = [(f1, v1), (f2, v2), (f3, v3), (f4, v4)] := by
  show putF f4 v4 (putF f3 v3 (putF f2 v2 [(f1, v1)])) = _
  rw [put_past h12]
  show putF f4 v4 (putF f3 v3 [(f1, v1), (f2, v2)]) = _
  rw [put_past h13, put_past h23]
  show putF f4 v4 [(f1, v1), (f2, v2), (f3, v3)] = _
  rw [put_past h14, put_past h24, put_past h34]
  rfl
theorem put3 {f1 f2 f3 : Sg} {v1 v2 v3 : V} (h12 : ¬ f1 = f2) (h13 : ¬ f1 = f3) (h23 : ¬ f2 = f3) : putF f3 v3 (putF f2 v2 (putF f1 v1 [])) = [(f1, v1), (f2, v2), (f3, v3)] := by
  show putF f3 v3 (putF f2 v2 [(f1, v1)]) = _
  rw [put_past h12]
  show putF f3 v3 [(f1, v1), (f2, v2)] = _
  rw [put_past h13, put_past h23]
  rfl
theorem put2 {f1 f2 : Sg} {v1 v2 : V} (h12 : ¬ f1 = f2) : putF f2 v2 (putF f1 v1 []) = [(f1, v1), (f2, v2)] := by
  show putF f2 v2 [(f1, v1)] = _
  rw [put_past h12]
  rfl
def entF (n : Nat) (qa t : Addr) : List (Sg × V) := [("number", .int (n : Int)), ("ask", .ref qa), ("translation", .ref t)]
theorem entF_number (n : Nat) (qa t : Addr) : (entF n qa t).lookup ("number" : Sg) = some (.int (n : Int)) := lk_here
theorem entF_ask (n : Nat) (qa t : Addr) : (entF n qa t).lookup ("ask" : Sg) = some (.ref qa) := (lk_past (by decide +kernel)).trans lk_here
theorem entF_tr (n : Nat) (qa t : Addr) : (entF n qa t).lookup ("translation" : Sg) = some (.ref t) := (lk_past (by decide +kernel)).trans ((lk_past (by decide +kernel)).trans lk_here)
def hitF (s n : Nat) (t : Addr) : List (Sg × V) := [("score", .int (s : Int)), ("number", .int (n : Int)), ("translation", .ref t)]
theorem hitF_score (s n : Nat) (t : Addr) : (hitF s n t).lookup ("score" : Sg) = some (.int (s : Int)) := lk_here
theorem hitF_number (s n : Nat) (t : Addr) : (hitF s n t).lookup ("number" : Sg) = some (.int (n : Int)) := (lk_past (by decide +kernel)).trans lk_here
theorem hitF_tr (s n : Nat) (t : Addr) : (hitF s n t).lookup ("translation" : Sg) = some (.ref t) := (lk_past (by decide +kernel)).trans ((lk_past (by decide +kernel)).trans lk_here)
/-! ### Objects in the heap -/
def AskAt (C : Addr) (H : Hp) (a : Addr) (q : Ut03.Ask) : Prop := ∃ dx p, H a = some (.ins C dx (askF q p)) ∧ H p = some (.lst (iv q.source))
def askOf (e : Ut03.Entry) : Ut03.Ask := ⟨e.source, e.ahead, e.behind, e.client⟩
def EntAt (CE CA : Addr) (H : Hp) (a : Addr) (e : Ut03.Entry) : Prop := ∃ dx qa t, H a = some (.ins CE dx (entF e.number qa t)) ∧ AskAt CA H qa (askOf e) ∧ H t = some (.lst (iv e.target))
def HitAt (CH : Addr) (H : Hp) (a : Addr) (x : Hit) : Prop := ∃ dx t, H a = some (.ins CH dx (hitF x.1 x.2.1 t)) ∧ H t = some (.lst (iv x.2.2))
/-- what is kept: whatever is no table -/
theorem AskAt.ext {C : Addr} {H H' : Hp} {a : Addr} {q : Ut03.Ask} (x : LamX.ExtN H H') (h : AskAt C H a q) : AskAt C H' a q := by
  obtain ⟨dx, p, h1, h2⟩ := h
  exact ⟨dx, p, x _ _ h1 (fun _ z => by cases z), x _ _ h2 (fun _ z => by cases z)⟩
theorem EntAt.ext {CE CA : Addr} {H H' : Hp} {a : Addr} {e : Ut03.Entry} (x : LamX.ExtN H H') (h : EntAt CE CA H a e) : EntAt CE CA H' a e := by
  obtain ⟨dx, qa, t, h1, h2, h3⟩ := h
  exact ⟨dx, qa, t, x _ _ h1 (fun _ z => by cases z), h2.ext x, x _ _ h3 (fun _ z => by cases z)⟩
theorem HitAt.ext {C : Addr} {H H' : Hp} {a : Addr} {y : Hit} (x : LamX.ExtN H H') (h : HitAt C H a y) : HitAt C H' a y := by
  obtain ⟨dx, t, h1, h2⟩ := h
  exact ⟨dx, t, x _ _ h1 (fun _ z => by cases z), x _ _ h2 (fun _ z => by cases z)⟩
theorem AskAt.same {C : Addr} {H H' : Hp} {a : Addr} {q : Ut03.Ask} (s : Same H H') (h : AskAt C H a q) : AskAt C H' a q := h.ext (.of s)
theorem EntAt.same {CE CA : Addr} {H H' : Hp} {a : Addr} {e : Ut03.Entry} (s : Same H H') (h : EntAt CE CA H a e) : EntAt CE CA H' a e := h.ext (.of s)
theorem HitAt.same {C : Addr} {H H' : Hp} {a : Addr} {y : Hit} (s : Same H H') (h : HitAt C H a y) : HitAt C H' a y := h.ext (.of s)
end TM

set_option Elab.async false
set_option linter.all false
set_option maxRecDepth 100000
set_option maxHeartbeats 2000000
namespace TM
open PySem PySem.Spec PyProof.Rows L2
structure Ce (mg : Sg → Option Value) : Prop where
  hn : ∃ t, mg "HIGHEST_NEIGHBOUR" = some (.int 9999 t)
  hc : ∃ t, mg "HIGHEST_CLIENT" = some (.int 99 t)
  hs : ∃ t, mg "HIGHEST_SCORE" = some (.int 102 t)
  bo : ∃ t, mg "BEST_OF_ANOTHER_SENTENCE" = some (.int 99 t)
  le : ∃ t, mg "LESS_FOR_ANOTHER_CLIENT" = some (.int 3 t)
abbrev sAskI : Stmt := inClass (top 22) 0
abbrev sEntI : Stmt := inClass (top 23) 0
abbrev sHitI : Stmt := inClass (top 24) 0
abbrev pAskI : List Sg := ["self", "ahead", "behind", "client", "sentence"]
abbrev pEntI : List Sg := ["self", "number", "ask", "translation"]
abbrev pHitI : List Sg := ["self", "score", "number", "translation"]
structure AskC (K : PySem.W.Frag) (mg : Sg → Option Value) (C f : Addr) (fd : FuncData) : Prop where
  cl : Cls K C
  n1 : NoAttr K C "ahead"
  n2 : NoAttr K C "behind"
  n3 : NoAttr K C "client"
  n4 : NoAttr K C "sentence"
  g : mg "Ask" = some (.ref C)
  M : Mk K C f
  F : Fun K "__init__" "Ask.__init__" sAskI f fd
  b : Binds K fd pAskI []
structure EntC (K : PySem.W.Frag) (mg : Sg → Option Value) (C f : Addr) (fd : FuncData) : Prop where
  cl : Cls K C
  n1 : NoAttr K C "number"
  n2 : NoAttr K C "ask"
  n3 : NoAttr K C "translation"
  g : mg "Entry" = some (.ref C)
  M : Mk K C f
  F : Fun K "__init__" "Entry.__init__" sEntI f fd
  b : Binds K fd pEntI []
structure HitC (K : PySem.W.Frag) (mg : Sg → Option Value) (C f : Addr) (fd : FuncData) : Prop where
  cl : Cls K C
  n1 : NoAttr K C "score"
  n2 : NoAttr K C "number"
  n3 : NoAttr K C "translation"
  g : mg "Hit" = some (.ref C)
  M : Mk K C f
  F : Fun K "__init__" "Hit.__init__" sHitI f fd
  b : Binds K fd pHitI []
/-- an __init__ that lays its parameters into fields -/
def spInit (C : Addr) (n : Nat) (fs : List V → List (Sg × V)) : Sp := fun vs H Q _ => ∃ (p dx : Addr) (xs : List V), vs = .ref p :: xs ∧ xs.length = n ∧ H p = some (.ins C dx []) ∧
  ∀ H' : Hp, H' p = some (.ins C dx (fs xs)) → (∀ b o, H b = some o → b ≠ p → H' b = some o) → Q .non H'
def fAsk : List V → List (Sg × V)
  | [a, b, c, d] => [("ahead", a), ("behind", b), ("client", c), ("sentence", d)]
  | _ => []
def fEnt : List V → List (Sg × V)
  | [a, b, c] => [("number", a), ("ask", b), ("translation", c)]
  | _ => []
def fHit : List V → List (Sg × V)
  | [a, b, c] => [("score", a), ("number", b), ("translation", c)]
  | _ => []
section
variable {P : Program} {w : World} {K : PySem.W.Frag} {mg : Sg → Option Value} {base : Heap}
theorem scAskI : FnScope pAskI pAskI (defScope sAskI) := ⟨rfl, rfl, rfl, by decide +kernel, rfl, by decide +kernel, by decide +kernel⟩
theorem scEntI : FnScope pEntI pEntI (defScope sEntI) := ⟨rfl, rfl, rfl, by decide +kernel, rfl, by decide +kernel, by decide +kernel⟩
theorem scHitI : FnScope pHitI pHitI (defScope sHitI) := ⟨rfl, rfl, rfl, by decide +kernel, rfl, by decide +kernel, by decide +kernel⟩
theorem ok_askI {C f : Addr} {fd : FuncData} (T : AskC K mg C f fd) : FnOk P w K mg base CX0 1 f fd pAskI (spInit C 4 fAsk) := by
  refine T.F.ok scAskI (fun vs H Q E h => ?_) (fun cdv A outer s H vs Q E hr h => ?_)
  · obtain ⟨p, dx, xs, rfl, hl, _⟩ := h
    rw [List.length_cons, hl]
    rfl
  · obtain ⟨p, dx, xs, rfl, hl, hp, k⟩ := h
    obtain ⟨a, b, c, d, rfl⟩ : ∃ a b c d, xs = [a, b, c, d] := by
      match xs, hl with
      | [a, b, c, d], _ => exact ⟨a, b, c, d, rfl⟩
    refine ⟨_, pss_cons (ps_fld (pv 0) (pv 1) rfl) (pss_cons (ps_fld (pv 0) (pv 2) rfl) (pss_cons (ps_fld (pv 0) (pv 3) rfl) (pss_one (ps_fld (pv 0) (pv 4) rfl)))), ?_⟩
    refine ⟨_, rfl, _, rfl, p, C, dx, [], rfl, hp, T.cl, T.n1, (by show 0 < 1000; decide), ?_⟩
    refine ⟨_, rfl, _, rfl, p, C, dx, _, rfl, upd_same, T.cl, T.n2, (by show 1 < 1000; decide), ?_⟩
    refine ⟨_, rfl, _, rfl, p, C, dx, _, rfl, upd_same, T.cl, T.n3, (by rw [put2 (by decide +kernel)]; show 2 < 1000; decide), ?_⟩
    refine ⟨_, rfl, _, rfl, p, C, dx, _, rfl, upd_same, T.cl, T.n4, (by rw [put3 (by decide +kernel) (by decide +kernel) (by decide +kernel)]; show 3 < 1000; decide), ?_⟩
    refine k _ ?_ fun b o e hb => by
      rw [upd_ne hb, upd_ne hb, upd_ne hb, upd_ne hb]
      exact e
    rw [upd_same, put4 (by decide +kernel) (by decide +kernel) (by decide +kernel) (by decide +kernel) (by decide +kernel) (by decide +kernel)]
    rfl
theorem ok_entI {C f : Addr} {fd : FuncData} (T : EntC K mg C f fd) : FnOk P w K mg base CX0 1 f fd pEntI (spInit C 3 fEnt) := by
  refine T.F.ok scEntI (fun vs H Q E h => ?_) (fun cdv A outer s H vs Q E hr h => ?_)
  · obtain ⟨p, dx, xs, rfl, hl, _⟩ := h
    rw [List.length_cons, hl]
    rfl
  · obtain ⟨p, dx, xs, rfl, hl, hp, k⟩ := h
    obtain ⟨a, b, c, rfl⟩ : ∃ a b c, xs = [a, b, c] := by
      match xs, hl with
      | [a, b, c], _ => exact ⟨a, b, c, rfl⟩
    refine ⟨_, pss_cons (ps_fld (pv 0) (pv 1) rfl) (pss_cons (ps_fld (pv 0) (pv 2) rfl) (pss_one (ps_fld (pv 0) (pv 3) rfl))), ?_⟩
    refine ⟨_, rfl, _, rfl, p, C, dx, [], rfl, hp, T.cl, T.n1, (by show 0 < 1000; decide), ?_⟩
    refine ⟨_, rfl, _, rfl, p, C, dx, _, rfl, upd_same, T.cl, T.n2, (by show 1 < 1000; decide), ?_⟩
    refine ⟨_, rfl, _, rfl, p, C, dx, _, rfl, upd_same, T.cl, T.n3, (by rw [put2 (by decide +kernel)]; show 2 < 1000; decide), ?_⟩
    refine k _ ?_ fun b o e hb => by
      rw [upd_ne hb, upd_ne hb, upd_ne hb]
      exact e
    rw [upd_same, put3 (by decide +kernel) (by decide +kernel) (by decide +kernel)]
    rfl
theorem ok_hitI {C f : Addr} {fd : FuncData} (T : HitC K mg C f fd) : FnOk P w K mg base CX0 1 f fd pHitI (spInit C 3 fHit) := by
  refine T.F.ok scHitI (fun vs H Q E h => ?_) (fun cdv A outer s H vs Q E hr h => ?_)
  · obtain ⟨p, dx, xs, rfl, hl, _⟩ := h
    rw [List.length_cons, hl]
    rfl
  · obtain ⟨p, dx, xs, rfl, hl, hp, k⟩ := h
    obtain ⟨a, b, c, rfl⟩ : ∃ a b c, xs = [a, b, c] := by
      match xs, hl with
      | [a, b, c], _ => exact ⟨a, b, c, rfl⟩
    refine ⟨_, pss_cons (ps_fld (pv 0) (pv 1) rfl) (pss_cons (ps_fld (pv 0) (pv 2) rfl) (pss_one (ps_fld (pv 0) (pv 3) rfl))), ?_⟩
    refine ⟨_, rfl, _, rfl, p, C, dx, [], rfl, hp, T.cl, T.n1, (by show 0 < 1000; decide), ?_⟩
    refine ⟨_, rfl, _, rfl, p, C, dx, _, rfl, upd_same, T.cl, T.n2, (by show 1 < 1000; decide), ?_⟩
    refine ⟨_, rfl, _, rfl, p, C, dx, _, rfl, upd_same, T.cl, T.n3, (by rw [put2 (by decide +kernel)]; show 2 < 1000; decide), ?_⟩
    refine k _ ?_ fun b o e hb => by
      rw [upd_ne hb, upd_ne hb, upd_ne hb]
      exact e
    rw [upd_same, put3 (by decide +kernel) (by decide +kernel) (by decide +kernel)]
    rfl
/-! ### is_ask -/
abbrev sIsAsk : Stmt := top 25
def spIsAsk (CA : Addr) : Sp := fun vs H Q _ => ∃ (a : Addr) (q : Ut03.Ask), vs = [.ref a] ∧ AskAt CA H a q ∧ q.source.length ≤ 1000 ∧ ∀ H', Same H H' → Q (.bl (Ut03.askOk q)) H'
theorem scIsAsk : FnScope ["ask"] ["ask"] (defScope sIsAsk) := ⟨rfl, rfl, rfl, by decide +kernel, rfl, by decide +kernel, by decide +kernel⟩
theorem ok_isAsk {f f1 f2 fA CA : Addr} {fd fd1 fd2 fdA : FuncData} (B : Bt mg) (C : Cs mg) (G : Ce mg) (TA : AskC K mg CA fA fdA) (D : DefAt K mg "is_ask" sIsAsk ["ask"] f fd) (D1 : DefAt K mg "is_sentence_with_words" sSentW ["words"] f1 fd1) (D2 : DefAt K mg "is_sentence" sSent ["words"] f2 fd2) :
    FnOk P w K mg base CX0 3 f fd ["ask"] (spIsAsk CA) := by
  refine D.F.ok scIsAsk (fun vs H Q E h => ?_) (fun cdv A outer s H vs Q E hr h => ?_)
  · obtain ⟨a, q, rfl, _⟩ := h
    rfl
  · obtain ⟨a, q, rfl, ⟨dx, p, h1, h2⟩, hl, k⟩ := h
    refine ⟨_, pss_cons (ps_if (PW.pt (pw_or (pt_cmpR op_gt (pe_fld (pv 0) rfl) (pe_gint rfl G.hn) (nomark _)) (pw_or1 (pt_cmpR op_gt (pe_fld (pv 0) rfl) (pe_gint rfl G.hn) (nomark _))))) (pss_one (ps_ret pe_bl)) pss_nil)
      (pss_one (ps_ret (pe_and (pe_cmpR op_le (pe_fld (pv 0) rfl) (pe_gint rfl G.hc) (nomark _)) (pe_one (pe_call (ok_sentW B C D1 D2) hr rfl D1.g D1.F.kp D1.b .nil pass0 (pa_cons (pe_fld (pv 0) rfl) pa_nil)))))), ?_⟩
    have kk : ∀ H', Same H H' → Q (.bl (Ut03.askOk q)) H' := k
    unfold Ut03.askOk at kk
    refine ⟨_, rfl, a, CA, dx, _, _, rfl, h1, TA.cl, TA.n1, askF_ahead q p, _, _, rfl, rfl, _, rfl, ?_⟩
    refine ite2 (fun c => ?_) (fun c => ?_)
    · have c' : ¬ q.ahead ≤ 9999 := by
        have z := of_decide_eq_true c
        omega
      refine iteT ?_
      have e := kk H (Same.refl H)
      rw [decide_eq_false c', Bool.false_and, Bool.and_false, Bool.and_false] at e
      exact e
    · have c1 : q.ahead ≤ 9999 := Nat.le_of_not_lt fun z => c (decide_eq_true (by omega))
      refine ⟨_, rfl, a, CA, dx, _, _, rfl, h1, TA.cl, TA.n2, askF_behind q p, _, _, rfl, rfl, _, rfl, ?_⟩
      refine ite2 (fun c => ?_) (fun c => ?_)
      · have c' : ¬ q.behind ≤ 9999 := by
          have z := of_decide_eq_true c
          omega
        have e := kk H (Same.refl H)
        rw [decide_eq_false c', Bool.false_and, Bool.and_false, Bool.and_false, Bool.and_false] at e
        exact e
      · have c2 : q.behind ≤ 9999 := Nat.le_of_not_lt fun z => c (decide_eq_true (by omega))
        refine ⟨_, rfl, a, CA, dx, _, _, rfl, h1, TA.cl, TA.n3, askF_client q p, _, _, rfl, rfl, _, rfl, ?_⟩
        refine ite2 (fun c => ?_) (fun c => ?_)
        · have c3 : q.client ≤ 99 := by
            have z := of_decide_eq_true c
            omega
          refine ⟨_, rfl, a, CA, dx, _, _, rfl, h1, TA.cl, TA.n4, askF_sentence q p, p, q.source, rfl, SqL.of h2, hl, fun H' s' => ?_⟩
          have e := kk H' s'
          rw [decide_eq_true c1, decide_eq_true c2, decide_eq_true c3, Bool.true_and, Bool.true_and, Bool.and_true, Bool.and_comm] at e
          exact e
        · have c3 : ¬ q.client ≤ 99 := fun z => c (decide_eq_true (by omega))
          have e := kk H (Same.refl H)
          rw [decide_eq_false c3, Bool.and_false, Bool.and_false, Bool.and_false, Bool.and_false] at e
          exact e
end
end TM

set_option Elab.async false
set_option linter.all false
set_option maxRecDepth 100000
set_option maxHeartbeats 2000000
namespace TM
open PySem PySem.Spec PyProof.Rows L2
def sameNq (p q : Ut03.Ask) : Nat := sameN p.ahead p.behind q.ahead q.behind
def sameQ (p q : Ut03.Ask) : Bool := decide (p.source = q.source) && (decide (p.client = q.client) && decide (sameNq p q = 2))
section
variable {P : Program} {w : World} {K : PySem.W.Frag} {mg : Sg → Option Value} {base : Heap}
/-! ### same_neighbours -/
abbrev sSameN : Stmt := top 26
def spSameN (CA : Addr) : Sp := fun vs H Q _ => ∃ (a b : Addr) (p q : Ut03.Ask), vs = [.ref a, .ref b] ∧ AskAt CA H a p ∧ AskAt CA H b q ∧ Q (.int (sameNq p q : Nat)) H
theorem scSameN : FnScope ["one", "other"] ["one", "other"] (defScope sSameN) := ⟨rfl, rfl, rfl, by decide +kernel, rfl, by decide +kernel, by decide +kernel⟩
theorem ok_sameN {f fA CA : Addr} {fd fdA : FuncData} (TA : AskC K mg CA fA fdA) (D : DefAt K mg "same_neighbours" sSameN ["one", "other"] f fd) : FnOk P w K mg base CX0 1 f fd ["one", "other"] (spSameN CA) := by
  refine D.F.ok scSameN (fun vs H Q E h => ?_) (fun cdv A outer s H vs Q E hr h => ?_)
  · obtain ⟨a, b, p, q, rfl, _⟩ := h
    rfl
  · obtain ⟨a, b, p, q, rfl, ⟨dx, s1, h1, h2⟩, ⟨dy, s2, g1, g2⟩, k⟩ := h
    refine ⟨_, pss_one (ps_ret (pe_op op_add (pe_ifExp (pt_cmpR op_eq (pe_fld (pv 0) rfl) (pe_fld (pv 1) rfl) (nomark _)) pe_int pe_int) (pe_ifExp (pt_cmpR op_eq (pe_fld (pv 0) rfl) (pe_fld (pv 1) rfl) (nomark _)) pe_int pe_int))), ?_⟩
    unfold sameNq sameN at k
    refine ⟨_, rfl, a, CA, dx, _, _, rfl, h1, TA.cl, TA.n1, askF_ahead p s1, _, rfl, b, CA, dy, _, _, rfl, g1, TA.cl, TA.n1, askF_ahead q s2, rfl, _, rfl, ?_⟩
    refine ite2 (fun c => ?_) (fun c => ?_)
    all_goals
      refine ⟨_, rfl, a, CA, dx, _, _, rfl, h1, TA.cl, TA.n2, askF_behind p s1, _, rfl, b, CA, dy, _, _, rfl, g1, TA.cl, TA.n2, askF_behind q s2, rfl, _, rfl, ?_⟩
      refine ite2 (fun c' => ?_) (fun c' => ?_)
    · have e1 : p.ahead = q.ahead := by have z := of_decide_eq_true (vint_eq ▸ c); omega
      have e2 : p.behind = q.behind := by have z := of_decide_eq_true (vint_eq ▸ c'); omega
      rw [if_pos e1, if_pos e2] at k
      exact ⟨_, _, rfl, rfl, k⟩
    · have e1 : p.ahead = q.ahead := by have z := of_decide_eq_true (vint_eq ▸ c); omega
      have e2 : ¬ p.behind = q.behind := fun z => c' (vint_eq ▸ decide_eq_true (by omega))
      rw [if_pos e1, if_neg e2] at k
      exact ⟨_, _, rfl, rfl, k⟩
    · have e1 : ¬ p.ahead = q.ahead := fun z => c (vint_eq ▸ decide_eq_true (by omega))
      have e2 : p.behind = q.behind := by have z := of_decide_eq_true (vint_eq ▸ c'); omega
      rw [if_neg e1, if_pos e2] at k
      exact ⟨_, _, rfl, rfl, k⟩
    · have e1 : ¬ p.ahead = q.ahead := fun z => c (vint_eq ▸ decide_eq_true (by omega))
      have e2 : ¬ p.behind = q.behind := fun z => c' (vint_eq ▸ decide_eq_true (by omega))
      rw [if_neg e1, if_neg e2] at k
      exact ⟨_, _, rfl, rfl, k⟩
/-! ### same_ask -/
abbrev sSameQ : Stmt := top 27
def spSameQ (CA : Addr) : Sp := fun vs H Q _ => ∃ (a b : Addr) (p q : Ut03.Ask), vs = [.ref a, .ref b] ∧ AskAt CA H a p ∧ AskAt CA H b q ∧ Q (.bl (sameQ p q)) H
theorem scSameQ : FnScope ["one", "other"] ["one", "other"] (defScope sSameQ) := ⟨rfl, rfl, rfl, by decide +kernel, rfl, by decide +kernel, by decide +kernel⟩
theorem ok_sameQ {f f1 fA CA : Addr} {fd fd1 fdA : FuncData} (TA : AskC K mg CA fA fdA) (D : DefAt K mg "same_ask" sSameQ ["one", "other"] f fd) (D1 : DefAt K mg "same_neighbours" sSameN ["one", "other"] f1 fd1) : FnOk P w K mg base CX0 2 f fd ["one", "other"] (spSameQ CA) := by
  refine D.F.ok scSameQ (fun vs H Q E h => ?_) (fun cdv A outer s H vs Q E hr h => ?_)
  · obtain ⟨a, b, p, q, rfl, _⟩ := h
    rfl
  · obtain ⟨a, b, p, q, rfl, hp, hq, k⟩ := h
    obtain ⟨dx, s1, h1, h2⟩ := id hp
    obtain ⟨dy, s2, g1, g2⟩ := id hq
    refine ⟨_, pss_one (ps_ret (pe_and (pe_cmpR (op_eqD hr.units) (pe_fld (pv 0) rfl) (pe_fld (pv 1) rfl) (nomark _)) (pe_and (pe_cmpR op_eq (pe_fld (pv 0) rfl) (pe_fld (pv 1) rfl) (nomark _))
      (pe_one (pe_cmpR op_eq (pe_call (ok_sameN TA D1) hr rfl D1.g D1.F.kp D1.b .nil pass0 (pa_cons (pv 0) (pa_cons (pv 1) pa_nil))) pe_int (nomark _)))))), ?_⟩
    unfold sameQ at k
    refine ⟨_, rfl, a, CA, dx, _, _, rfl, h1, TA.cl, TA.n4, askF_sentence p s1, _, rfl, b, CA, dy, _, _, rfl, g1, TA.cl, TA.n4, askF_sentence q s2, _, _, dp_iv (SqL.of h2), dp_iv (SqL.of g2), pd_shaped _, pd_shaped _, _, rfl, ?_⟩
    rw [eqv_pd]
    refine ite2 (fun c => ?_) (fun c => ?_)
    · rw [c, Bool.true_and] at k
      refine ⟨_, rfl, a, CA, dx, _, _, rfl, h1, TA.cl, TA.n3, askF_client p s1, _, rfl, b, CA, dy, _, _, rfl, g1, TA.cl, TA.n3, askF_client q s2, rfl, _, rfl, ?_⟩
      refine ite2 (fun c' => ?_) (fun c' => ?_)
      · have e : p.client = q.client := by have z := of_decide_eq_true (vint_eq ▸ c'); omega
        rw [decide_eq_true e, Bool.true_and] at k
        refine ⟨_, rfl, _, rfl, a, b, p, q, rfl, hp, hq, rfl, ?_⟩
        have e2 : decide (V.int (sameNq p q : Nat) = V.int 2) = decide (sameNq p q = 2) := by
          rw [vint_eq]; exact decide_eq_decide.mpr (by omega)
        rw [← e2] at k
        exact k
      · have e : ¬ p.client = q.client := fun z => c' (vint_eq ▸ decide_eq_true (by omega))
        rw [decide_eq_false e, Bool.false_and] at k
        exact k
    · have e : decide (p.source = q.source) = false := by simpa using c
      rw [e, Bool.false_and] at k
      exact k
/-! ### score_of -/
abbrev sScore : Stmt := top 28
def spScore (CE CA : Addr) : Sp := fun vs H Q _ => ∃ (a b : Addr) (e : Ut03.Entry) (q : Ut03.Ask), vs = [.ref a, .ref b] ∧ EntAt CE CA H a e ∧ AskAt CA H b q ∧ e.source.length ≤ 1000 ∧ q.source.length ≤ 1000 ∧ ∀ H', Same H H' → Q (.int (Ut03.score q e : Nat)) H'
theorem scScore : FnScope ["entry", "ask", "score"] ["entry", "ask"] (defScope sScore) := ⟨rfl, rfl, rfl, by decide +kernel, rfl, by decide +kernel, by decide +kernel⟩
theorem ok_score {f f0 f1 f2 f3 f4 fA CA fE CE : Addr} {fd fd0 fd1 fd2 fd3 fd4 fdA fdE : FuncData} (B : Bt mg) (G : Ce mg) (TA : AskC K mg CA fA fdA) (TE : EntC K mg CE fE fdE) (D : DefAt K mg "score_of" sScore ["entry", "ask"] f fd) (D0 : DefAt K mg "same_neighbours" sSameN ["one", "other"] f0 fd0)
    (D1 : DefAt K mg "nearness_of" sNear ["first", "second"] f1 fd1) (D2 : DefAt K mg "distance_between" sDist ["first", "second"] f2 fd2) (D3 : DefAt K mg "distance_rows" sRows ["first", "second"] f3 fd3) (D4 : DefAt K mg "row_with_word" sRow ["above", "word", "second"] f4 fd4) :
    FnOk P w K mg base CX0 5 f fd ["entry", "ask"] (spScore CE CA) := by
  refine D.F.ok scScore (fun vs H Q E h => ?_) (fun cdv A outer s H vs Q E hr h => ?_)
  · obtain ⟨a, b, e, q, rfl, _⟩ := h
    rfl
  · obtain ⟨a, b, e, q, rfl, ⟨dx, qa, t, h1, hqa, h3⟩, hq, hle, hlq, k⟩ := h
    have hr1 : Room 1 _ := hr.mono (by decide)
    obtain ⟨da, s1, a1, a2⟩ := id hqa
    obtain ⟨dy, s2, g1, g2⟩ := id hq
    refine ⟨_, pss_cons (ps_if (pt_cmpR (op_eqD hr.units) (pe_fld (pe_fld (pv 0) rfl) rfl) (pe_fld (pv 1) rfl) (nomark _))
        (pss_one (ps_set (i := 2) scScore.nd rfl (Or.inl rfl) (pe_op op_add pe_int (pe_call (ok_sameN TA D0) hr1 rfl D0.g D0.F.kp D0.b .nil pass0 (pa_cons (pe_fld (pv 0) rfl) (pa_cons (pv 1) pa_nil))))))
        (pss_one (ps_set (i := 2) scScore.nd rfl (Or.inl rfl) (pe_callB (call_min2 rfl) (by rfl) B.min (by decide +kernel) (pa_cons (pe_call (ok_near B D1 D2 D3 D4) hr rfl D1.g D1.F.kp D1.b .nil pass0 (pa_cons (pe_fld (pe_fld (pv 0) rfl) rfl) (pa_cons (pe_fld (pv 1) rfl) pa_nil))) (pa_cons (pe_gint rfl G.bo) pa_nil))))))
      (pss_cons (ps_if (pt_cmpR op_ne (pe_fld (pe_fld (pv 0) rfl) rfl) (pe_fld (pv 1) rfl) (nomark _)) (pss_one (ps_ret (pe_callB (call_max2 rfl) (by rfl) B.max (by decide +kernel) (pa_cons (pe_op op_sub (pv 2) (pe_gint rfl G.le)) (pa_cons pe_int pa_nil))))) pss_nil)
      (pss_one (ps_ret (pv 2)))), ?_⟩
    have kk : ∀ H', Same H H' → Q (.int (Ut03.score q e : Nat)) H' := k
    rw [score_is] at kk
    refine ⟨_, rfl, a, CE, dx, _, _, rfl, h1, TE.cl, TE.n2, entF_ask _ qa t, qa, CA, da, _, _, rfl, a1, TA.cl, TA.n4, askF_sentence _ s1, _, rfl, b, CA, dy, _, _, rfl, g1, TA.cl, TA.n4, askF_sentence q s2, _, _, dp_iv (SqL.of a2), dp_iv (SqL.of g2), pd_shaped _, pd_shaped _, _, rfl, ?_⟩
    rw [eqv_pd]
    refine ite2 (fun c => ?_) (fun c => ?_)
    · have c1 : e.source = q.source := of_decide_eq_true c
      rw [if_pos c1] at kk
      refine ⟨_, rfl, a, CE, dx, _, _, rfl, h1, TE.cl, TE.n2, entF_ask _ qa t, _, rfl, qa, b, askOf e, q, rfl, hqa, hq, _, _, rfl, rfl, ?_⟩
      refine ⟨_, rfl, a, CE, dx, _, _, rfl, h1, TE.cl, TE.n2, entF_ask _ qa t, qa, CA, da, _, _, rfl, a1, TA.cl, TA.n3, askF_client _ s1, _, rfl, b, CA, dy, _, _, rfl, g1, TA.cl, TA.n3, askF_client q s2, rfl, _, rfl, ?_⟩
      have k2 := kk H (Same.refl H)
      refine ite2 (fun c' => ?_) (fun c' => ?_)
      · have c2 : ¬ e.client = q.client := fun z => by
          rw [vint_eq, decide_eq_true (by show ((askOf e).client : Int) = _; exact congrArg _ z)] at c'
          cases c'
        rw [if_neg c2] at k2
        refine ⟨_, rfl, _, _, rfl, rfl, _, _, rfl, ?_⟩
        have e3 : (if (0 : Int) > 100 + ((sameNq (askOf e) q : Nat) : Int) - 3 then (0 : Int) else 100 + ((sameNq (askOf e) q : Nat) : Int) - 3) = ((100 + sameN e.ahead e.behind q.ahead q.behind - 3 : Nat) : Int) := by
          have e4 : sameNq (askOf e) q = sameN e.ahead e.behind q.ahead q.behind := rfl
          rw [e4]
          split <;> omega
        rw [← e3] at k2
        exact k2
      · have c2 : e.client = q.client := by
          by_cases z : e.client = q.client
          · exact z
          · exact absurd (by rw [vint_eq, decide_eq_false (by show ¬ ((askOf e).client : Int) = _; intro y; exact z (by exact Int.ofNat.inj y))]; rfl) c'
        rw [if_pos c2] at k2
        exact ⟨_, rfl, k2⟩
    · have c1 : ¬ e.source = q.source := fun z => c (decide_eq_true z)
      rw [if_neg c1] at kk
      refine ⟨_, rfl, a, CE, dx, _, _, rfl, h1, TE.cl, TE.n2, entF_ask _ qa t, qa, CA, da, _, _, rfl, a1, TA.cl, TA.n4, askF_sentence _ s1, _, rfl, b, CA, dy, _, _, rfl, g1, TA.cl, TA.n4, askF_sentence q s2, s1, s2, e.source, q.source, rfl, SqL.of a2, SqL.of g2, hle, hlq, fun H1 sm => ?_⟩
      refine ⟨_, _, rfl, ?_⟩
      have em : (if (99 : Int) < ((Ut03.near e.source q.source : Nat) : Int) then (99 : Int) else ((Ut03.near e.source q.source : Nat) : Int)) = ((min (Ut03.near e.source q.source) 99 : Nat) : Int) := by
        split <;> omega
      rw [em]
      refine ⟨_, rfl, a, CE, dx, _, _, rfl, sm _ _ h1, TE.cl, TE.n2, entF_ask _ qa t, qa, CA, da, _, _, rfl, sm _ _ a1, TA.cl, TA.n3, askF_client _ s1, _, rfl, b, CA, dy, _, _, rfl, sm _ _ g1, TA.cl, TA.n3, askF_client q s2, rfl, _, rfl, ?_⟩
      have k2 := kk H1 sm
      refine ite2 (fun c' => ?_) (fun c' => ?_)
      · have c2 : ¬ e.client = q.client := fun z => by
          rw [vint_eq, decide_eq_true (by show ((askOf e).client : Int) = _; exact congrArg _ z)] at c'
          cases c'
        rw [if_neg c2] at k2
        refine ⟨_, rfl, _, _, rfl, rfl, _, _, rfl, ?_⟩
        have e3 : (if (0 : Int) > ((min (Ut03.near e.source q.source) 99 : Nat) : Int) - 3 then (0 : Int) else ((min (Ut03.near e.source q.source) 99 : Nat) : Int) - 3) = ((min (Ut03.near e.source q.source) 99 - 3 : Nat) : Int) := by
          split <;> omega
        rw [← e3] at k2
        exact k2
      · have c2 : e.client = q.client := by
          by_cases z : e.client = q.client
          · exact z
          · exact absurd (by rw [vint_eq, decide_eq_false (by show ¬ ((askOf e).client : Int) = _; intro y; exact z (by exact Int.ofNat.inj y))]; rfl) c'
        rw [if_pos c2] at k2
        exact ⟨_, rfl, k2⟩
end
end TM

set_option Elab.async false
set_option linter.all false
set_option maxRecDepth 100000
set_option maxHeartbeats 2000000
namespace TM
open PySem PySem.Spec PyProof.Rows L2
theorem dpAll_lists {K : PySem.W.Frag} {H : Hp} : ∀ {ts : List Addr} {ls : List (List Nat)}, All2 (fun t l => H t = some (.lst (iv l))) ts ls → DpAll K H (ts.map V.ref) (ls.map pd)
  | _, _, .nil => .nil
  | _, _, .cons r h => .cons (dp_iv (SqL.of r)) (dpAll_lists h)
section
variable {P : Program} {w : World} {K : PySem.W.Frag} {mg : Sg → Option Value} {base : Heap}
/-! ### first_of_each_translation -/
abbrev sFirst : Stmt := top 31
def spFirst (K : PySem.W.Frag) (CH : Addr) : Sp := fun vs H Q _ => ∃ (a : Addr) (hs : List Addr) (xs : List Hit), vs = [.ref a] ∧ SqL K H a (hs.map V.ref) ∧ All2 (HitAt CH H) hs xs ∧ hs.length ≤ 1000 ∧
  ∀ (H' : Hp) (r : Addr) (fs : List Addr), Same H H' → H r = none → H' r = some (.lst (fs.map V.ref)) → All2 (HitAt CH H') fs (firsts xs) → Q (.ref r) H'
abbrev nFirst : List Sg := ["hits", "firsts", "seen", "hit"]
theorem scFirst : FnScope nFirst ["hits"] (defScope sFirst) := ⟨rfl, rfl, rfl, by decide +kernel, rfl, by decide +kernel, by decide +kernel⟩
theorem ok_first {f CH fH : Addr} {fd fdH : FuncData} (TH : HitC K mg CH fH fdH) (D : DefAt K mg "first_of_each_translation" sFirst ["hits"] f fd) : FnOk P w K mg base CX0 1 f fd ["hits"] (spFirst K CH) := by
  refine D.F.ok scFirst (fun vs H Q E h => ?_) (fun cdv A outer s H vs Q E hr h => ?_)
  · obtain ⟨a, hs, xs, rfl, _⟩ := h
    rfl
  · obtain ⟨a, hs, xs, rfl, hS, hX, hl, k⟩ := h
    have hu : _ + 65 < cLine := Nat.lt_of_le_of_lt (Nat.add_le_add_left (by decide : 65 ≤ 200) _) (show _ + 200 < cLine from by have q := hr.un; omega)
    refine ⟨_, pss_cons (ps_set (i := 1) scFirst.nd rfl (Or.inl rfl) (pe_lst pa_nil)) (pss_cons (ps_set (i := 2) scFirst.nd rfl (Or.inl rfl) (pe_lst pa_nil))
      (pss_cons (ps_for PassesOwn.never rfl (pi_list (pv 0)) (pg_name (i := 3) scFirst.nd rfl (Or.inl rfl))
        (pss_one (ps_if (pt_cmpR (op_notInD hu) (pe_fld (pv 3) rfl) (pv 2) (by rfl))
          (pss_cons (ps_expr (pe_bm PySem.F.plainAttrs_list PySem.F.slot_list_append PySem.F.type_list_append mt_append (pv 2) (pa_cons (pe_fld (pv 3) rfl) pa_nil)))
          (pss_one (ps_expr (pe_bm PySem.F.plainAttrs_list PySem.F.slot_list_append PySem.F.type_list_append mt_append (pv 1) (pa_cons (pv 3) pa_nil))))) pss_nil)))
      (pss_one (ps_ret (pv 1))))), ?_⟩
    refine ⟨Nat.zero_le _, fun r hr0 => ⟨Nat.zero_le _, fun e he => ?_⟩⟩
    have nre : r ≠ e := fun z => by rw [← z, upd_same] at he; cases he
    have he0 : H e = none := by rw [upd_ne nre.symm] at he; exact he
    have s0 : Same H (upd (upd H r (.lst [])) e (.lst [])) := Same.over (Same.new hr0) he0
    refine ⟨_, rfl, a, rfl, ⟨_, s0.seq hS⟩, for_list (K := K) (a := a) (xs := hs.map V.ref) (fun i σ H1 => ∃ (v3 : Option V) (fs ts : List Addr), σ = [some (.ref a), some (.ref r), some (.ref e), v3] ∧ Same H H1 ∧ H1 r = some (.lst (fs.map V.ref)) ∧ H1 e = some (.lst (ts.map V.ref)) ∧
      fs.length ≤ i ∧ ts.length ≤ i ∧ All2 (HitAt CH H) fs (firsts (xs.take i)) ∧ All2 (fun t l => H t = some (.lst (iv l))) ts ((firsts (xs.take i)).map fun y => y.2.2)) ?_ (fun i σ H1 _ ⟨_, _, _, _, s1, _⟩ => s1.seq hS) ?_ ?_⟩
    · exact ⟨none, [], [], rfl, s0, by rw [upd_ne nre, upd_same]; rfl, upd_same, Nat.le_refl _, Nat.le_refl _, .nil, .nil⟩
    · rintro i x σ H1 hx ⟨v3, fs, ts, rfl, s1, d1, d2, l1, l2, A1, A2⟩
      obtain ⟨h, hh, rfl⟩ : ∃ h, hs[i]? = some h ∧ x = V.ref h := by
        rw [List.getElem?_map] at hx
        cases q : hs[i]? with
        | none =>
          rw [q] at hx
          cases hx
        | some h =>
          rw [q] at hx
          exact ⟨h, rfl, (Option.some.inj hx).symm⟩
      have hi : i < hs.length := (List.getElem?_eq_some_iff.mp hh).1
      obtain ⟨y, hy, ⟨dx, t, g1, g2⟩⟩ := hX.get hh
      refine ⟨_, rfl, h, CH, dx, _, _, rfl, s1 _ _ g1, TH.cl, TH.n3, hitF_tr _ _ t, _, rfl, _, _, dp_iv (SqL.of (s1 _ _ g2)), .lst (SqL.of d2) (dpAll_lists (A2.imp fun t l z => s1 _ _ z)), pd_shaped _, pds_shaped _, _, rfl, ?_⟩
      rw [any_pd]
      have ef := firsts_snoc (xs.take i) y
      rw [← take_more hy] at ef
      unfold first1 at ef
      rw [first1_any] at ef
      refine ite2 (fun c => ?_) (fun c => ?_)
      · have c' : ((firsts (xs.take i)).map fun y => y.2.2).contains y.2.2 = false := by simpa using c
        rw [c', if_neg Bool.false_ne_true] at ef
        refine ⟨_, rfl, .inl ⟨rfl, _, SqL.of d2⟩, _, rfl, h, CH, dx, _, _, rfl, s1 _ _ g1, TH.cl, TH.n3, hitF_tr _ _ t, e, _, _, rfl, rfl, d2, small (by rw [List.length_map]; omega), ?_⟩
        have d1' : upd H1 e (.lst (ts.map V.ref ++ [V.ref t])) r = some (.lst (fs.map V.ref)) := (upd_ne nre).trans d1
        refine ⟨_, rfl, .inl ⟨rfl, _, SqL.of d1'⟩, _, rfl, r, _, _, rfl, rfl, d1', small (by rw [List.length_map]; omega), ?_⟩
        refine ⟨_, fs ++ [h], ts ++ [t], rfl, Same.over (Same.over s1 he0) hr0, ?_, ?_, ?_, ?_, ?_, ?_⟩
        · rw [upd_same, List.map_append]
          rfl
        · rw [upd_ne nre.symm, upd_same, List.map_append]
          rfl
        · rw [List.length_append, List.length_singleton]
          omega
        · rw [List.length_append, List.length_singleton]
          omega
        · rw [ef]
          exact A1.snoc ⟨dx, t, g1, g2⟩
        · rw [ef, List.map_append]
          exact All2.snoc (R := fun t l => H t = some (.lst (iv l))) g2 A2
      · have c' : ((firsts (xs.take i)).map fun y => y.2.2).contains y.2.2 = true := by simpa using c
        rw [c', if_pos rfl] at ef
        refine ⟨_, fs, ts, rfl, s1, d1, d2, by omega, by omega, ?_, ?_⟩
        · rw [ef]
          exact A1
        · rw [ef]
          exact A2
    · rintro σ H1 ⟨v3, fs, ts, rfl, s1, d1, d2, l1, l2, A1, A2⟩
      rw [List.length_map, hX.len, List.take_length] at A1
      exact ⟨_, rfl, k H1 r fs s1 hr0 d1 (A1.imp fun a x z => z.same s1)⟩
end
end TM

set_option Elab.async false
set_option linter.all false
set_option maxRecDepth 100000
set_option maxHeartbeats 2000000
namespace TM
open PySem PySem.Spec PyProof.Rows L2
/-- a def whose code object is known -/
structure FunC (K : PySem.W.Frag) (x : Sg) (st : Stmt) (f : Addr) (fd : FuncData) (c : Addr) : Prop where
  ex : ∃ (oc : Value) (od : Option Addr) (kV doc pm : Value) (an : Option Addr) (ct : Value) (osl : Array (Option Value)),
    fd = PySem.W.fnOf x x (defArgs st) (defBody st) (defScope st) .none kV doc pm an (.ref c) ct ∧ K.lookup f = some ⟨oc, od, .func fd, osl⟩ ∧ PySem.W.codeIn K (.ref c) x = true
theorem FunC.ok {P : Program} {w : World} {K : PySem.W.Frag} {mg : Sg → Option Value} {base : Heap} {x : Sg} {st : Stmt} {f c : Addr} {fd : FuncData} {N ps : List Sg} {k : Nat} {sp : Sp} (F : FunC K x st f fd c) (S : FnScope N ps (defScope st)) (len : ∀ vs H Q E, sp vs H Q E → vs.length = ps.length)
    (hbody : ∀ (A : Around) (outer : List Env) (s : Shared) (H : Hp) (vs : List V) (Q : VK) (E : XK), Room k (A.deeper (envOfC x (defScope st) s.heap.objs.size f (.ref c))) → sp vs H Q E →
      ∃ t, PSs (cxOf CX0 P w K mg base N x (defScope st) f (.ref c) A outer s H E).nox (defBody st) t ∧ t { nx := fun _ H' => Q .non H', rt := Q } (start N vs) H) : FnOk P w K mg base CX0 (k + 1) f fd ps sp := by
  obtain ⟨oc, od, kV, doc, pm, an, ct, osl, rfl, lk, hcd⟩ := F.ex
  exact fn_of lk hcd S len fun A outer s H vs Q E hr hsp => (hbody A outer s H vs Q E hr hsp).elim fun t y => ⟨t, y.1.nox, y.2⟩
/-- a hit's key -/
def kfOf (H : Hp) : V → Int × Int
  | .ref p => match H p with
    | some (.ins _ _ [(_, .int s), (_, .int n), _]) => (s, n)
    | _ => (0, 0)
  | _ => (0, 0)
theorem kfOf_hit {C : Addr} {H : Hp} {a : Addr} {x : Hit} (h : HitAt C H a x) : kfOf H (.ref a) = ((x.1 : Int), (x.2.1 : Int)) := by
  obtain ⟨dx, t, h1, h2⟩ := h
  show (match H a with
    | some (.ins _ _ [(_, .int s), (_, .int n), _]) => (s, n)
    | _ => (0, 0)) = _
  rw [h1]
  rfl
/-- a hit that was made behind H0; its translation stood there -/
def HitIn (CH : Addr) (H0 H1 : Hp) (a : Addr) (x : Hit) : Prop := ∃ dx t, H1 a = some (.ins CH dx (hitF x.1 x.2.1 t)) ∧ H0 t = some (.lst (iv x.2.2))
theorem HitIn.hit {CH : Addr} {H0 H1 : Hp} {a : Addr} {x : Hit} (s : Same H0 H1) (h : HitIn CH H0 H1 a x) : HitAt CH H1 a x := by
  obtain ⟨dx, t, h1, h2⟩ := h
  exact ⟨dx, t, h1, s _ _ h2⟩
theorem refs_all2 {R : Addr → Hit → Prop} : ∀ {hs : List Addr} {xs : List Hit}, All2 R hs xs → All2 (fun v x => ∃ h, v = V.ref h ∧ R h x) (hs.map V.ref) xs
  | _, _, .nil => .nil
  | _, _, .cons r t => .cons ⟨_, rfl, r⟩ (refs_all2 t)
theorem all2_refs {R : Addr → Hit → Prop} : ∀ {vs : List V} {xs : List Hit}, All2 (fun v x => ∃ h, v = V.ref h ∧ R h x) vs xs → ∃ hs : List Addr, vs = hs.map V.ref ∧ All2 R hs xs
  | _, _, .nil => ⟨[], rfl, .nil⟩
  | _, _, .cons ⟨h, e, r⟩ t => by
    obtain ⟨hs, e2, t2⟩ := all2_refs t
    exact ⟨h :: hs, by rw [e, e2]; rfl, .cons r t2⟩
/-- what sorted gives, by the hits -/
theorem sorted_hits {CH : Addr} {H : Hp} {hs : List Addr} {xs : List Hit} {zs : List V} (A : All2 (HitAt CH H) hs xs) (hn : (xs.map fun x => x.2.1).Nodup) (p : zs.Perm (hs.map V.ref)) (s : SrtO.Srtd (ltP (kfOf H)) zs) :
    ∃ fs : List Addr, zs.reverse = fs.map V.ref ∧ All2 (HitAt CH H) fs (sortH xs) := by
  obtain ⟨ys, py, ay⟩ := (refs_all2 A).perm p
  have ar := ay.rev
  have sr : zs.reverse.Pairwise fun x y => ltP (kfOf H) x y = false := List.pairwise_reverse.mpr s
  have pr : ys.reverse.Perm xs := (List.reverse_perm ys).trans py
  have w1 : ys.reverse.Pairwise fun x y => ¬ (x.1 < y.1 ∨ (x.1 = y.1 ∧ x.2.1 < y.2.1)) := ar.pair _ _ (fun v v' x x' ⟨h, e, r⟩ ⟨h', e', r'⟩ z => by
    subst e e'
    have z' : SrtO.lexB (kfOf H (.ref h)) (kfOf H (.ref h')) = false := z
    rw [kfOf_hit r, kfOf_hit r', SrtO.lexB_no] at z'
    intro c
    exact z' (by dsimp only; omega)) sr
  have w2 : ys.reverse.Pairwise fun x y => x.2.1 ≠ y.2.1 := by
    have q := (pr.map fun x : Hit => x.2.1).nodup_iff.mpr hn
    exact List.pairwise_map.mp q
  have w3 : ys.reverse.Pairwise R := (w1.and w2).imp fun {x y} h => R_iff.mpr (by omega)
  have e := sortH_is hn pr w3
  rw [e] at ar
  exact all2_refs ar
abbrev lamSc : Scope := { kind := .function, names := [("hit", .local)], isGenerator := false, isCoroutine := false, more := [] }
theorem scLam : FnScope ["hit"] ["hit"] lamSc := ⟨rfl, rfl, rfl, by decide +kernel, rfl, by decide +kernel, by decide +kernel⟩
/-- the lambda's name -/
def lamQ : Sg := ("hits_for" : Sg) ++ ".<locals>." ++ "<lambda>"
section
variable {P : Program} {w : World} {K : PySem.W.Frag} {mg : Sg → Option Value} {base : Heap}
/-! ### hits_for -/
abbrev sHits : Stmt := top 29
abbrev pHits : List Sg := ["entries", "least", "ask"]
abbrev nHits : List Sg := ["entries", "least", "ask", "hits", "near_enough", "ordered", "entry", "hit"]
def spHits (K : PySem.W.Frag) (CE CA CH Pt : Addr) : Sp := fun vs H Q _ => ∃ (a b : Addr) (least : Nat) (es : List Addr) (l : List Ut03.Entry) (q : Ut03.Ask), vs = [.ref a, .int (least : Int), .ref b] ∧ SqL K H a (es.map V.ref) ∧ All2 (EntAt CE CA H) es l ∧ AskAt CA H b q ∧
  l.length ≤ 1000 ∧ (∀ e ∈ l, e.source.length ≤ 1000) ∧ q.source.length ≤ 1000 ∧ (l.map fun e => e.number).Nodup ∧ LamX.Tabs [(Pt, lamQ)] H ∧
  ∀ (H' : Hp) (r : Addr) (fs : List Addr), LamX.ExtN H H' → LamX.Tabs [(Pt, lamQ)] H' → H' r = some (.lst (fs.map V.ref)) → All2 (HitAt CH H') fs (foundH l q least) → Q (.ref r) H'
theorem scHits : FnScope nHits pHits (defScope sHits) := ⟨rfl, rfl, rfl, by decide +kernel, rfl, by decide +kernel, by decide +kernel⟩
theorem ok_hits {f c Pt fS f0 f1 f2 f3 f4 f5 fA CA fE CE fH CH : Addr} {fd fdS fd0 fd1 fd2 fd3 fd4 fd5 fdA fdE fdH : FuncData} (B : Bt mg) (G : Ce mg) (TA : AskC K mg CA fA fdA) (TE : EntC K mg CE fE fdE) (TH : HitC K mg CH fH fdH) (F : FunC K "hits_for" sHits f fd c) (TB : LamX.TabB base mg c Pt)
    (DS : DefAt K mg "score_of" sScore ["entry", "ask"] fS fdS) (D0 : DefAt K mg "same_neighbours" sSameN ["one", "other"] f0 fd0)
    (D1 : DefAt K mg "nearness_of" sNear ["first", "second"] f1 fd1) (D2 : DefAt K mg "distance_between" sDist ["first", "second"] f2 fd2) (D3 : DefAt K mg "distance_rows" sRows ["first", "second"] f3 fd3) (D4 : DefAt K mg "row_with_word" sRow ["above", "word", "second"] f4 fd4)
    (D5 : DefAt K mg "first_of_each_translation" sFirst ["hits"] f5 fd5) :
    FnOk P w K mg base CX0 6 f fd pHits (spHits K CE CA CH Pt) := by
  refine F.ok scHits (fun vs H Q E h => ?_) (fun A outer s H vs Q E hr h => ?_)
  · obtain ⟨a, b, least, es, l, q, rfl, _⟩ := h
    rfl
  · obtain ⟨a, b, least, es, l, q, rfl, hS, hE, hQ, hl, hls, hlq, hnd, hT, k⟩ := h
    have hr1 : Room 1 _ := hr.mono (by decide)
    have hr2 : Room 2 _ := hr.mono (by decide)
    have hr3 : Room (0 + 3) _ := hr.mono (by decide)
    refine ⟨_, pss_cons (ps_setLc (i := 3) (own := [("entry", 6)]) (g := gName 6) (tt := tYes) (te := tMake CH (spInit CH 3 fHit) [] E0 (tCons (tCall (spScore CE CA) [] E0 (tCons (tVar 6) (tCons (tVar 2) tNil))) (tCons (tFld K (tVar 6) "number") (tCons (tFld K (tVar 6) "translation") tNil)))) rfl scHits.nd rfl rfl (sw_true rfl rfl rfl (by decide +kernel)) (pi_list (pv 0)) (blkOk_by (own := [("entry", 6)]) (N := nHits) (sc := defScope sHits) (by decide +kernel))
        (fun _ _ _ _ _ => pg_name (i := 6) scHits.nd rfl (Or.inl rfl)) (fun _ _ _ _ _ => pts_nil)
        (fun _ _ _ _ _ => pe_make TH.M (ok_hitI TH) hr2 rfl TH.g TH.b .nil pass0 (by exact pa_cons (pe_call (ok_score B G TA TE DS D0 D1 D2 D3 D4) hr rfl DS.g DS.F.kp DS.b .nil pass0 (by exact pa_cons (pv 6) (pa_cons (pv 2) pa_nil))) (pa_cons (by exact pe_fld (pv 6) (by rfl)) (pa_cons (by exact pe_fld (pv 6) (by rfl)) pa_nil)))))
      (pss_cons (ps_setLc (i := 4) (own := [("hit", 7)]) (g := gName 7) (tt := tTest (tOp (rI0 fun i j => V.bl (decide (j ≤ i))) (tFld K (tVar 7) "score") (tVar 1))) rfl scHits.nd rfl rfl (sw_true rfl rfl rfl (by decide +kernel)) (pi_list (pv 3)) (blkOk_by (own := [("hit", 7)]) (N := nHits) (sc := defScope sHits) (by decide +kernel))
        (fun _ _ _ _ _ => pg_name (i := 7) scHits.nd rfl (Or.inl rfl)) (fun _ _ _ _ _ => pts_one (by exact pt_cmpR op_ge (pe_fld (pv 7) rfl) (pv 1) (nomark _)))
        (fun _ _ _ _ _ => pv 7))
      (pss_cons (ps_set (i := 5) scHits.nd rfl (Or.inl rfl) (pe_sortLam (T := [(Pt, lamQ)]) (c := c) (P := Pt) (k := 0) (scope := lamSc) (N := ["hit"]) (ps := ["hit"]) (te := tTup (tCons (tFld K (tVar 0) "score") (tCons (tFld K (tVar 0) "number") tNil))) rfl B.sorted (pa_cons (pv 4) pa_nil) TB rfl (List.mem_singleton.mpr rfl) (fun p hp _ => by rw [List.mem_singleton.mp hp]; rfl) hr3 scLam rfl rfl rfl
          (fun _ _ _ us hu => match us, hu with | [_], _ => rfl) (fun _ _ _ _ _ _ => by exact pe_tup (pa_cons (pe_fld (pv 0) rfl) (pa_cons (pe_fld (pv 0) rfl) pa_nil)))))
      (pss_one (ps_ret (pe_call (ok_first TH D5) hr1 rfl D5.g D5.F.kp D5.b .nil pass0 (pa_cons (pv 5) pa_nil)))))), ?_⟩
    refine ⟨_, rfl, a, rfl, ⟨_, hS⟩, fun D hD => lc_list (K := K) (a := a) (xs := es.map V.ref) (fun i H1 => ∃ hs : List Addr, Same H H1 ∧ H1 D = some (.lst (hs.map V.ref)) ∧ hs.length = i ∧ All2 (HitIn CH H H1) hs ((l.take i).map (hitFor q))) ?_ (fun i H1 _ ⟨_, s1, _⟩ => s1.seq hS) ?_ ?_⟩
    · exact ⟨[], Same.new hD, upd_same, rfl, .nil⟩
    · rintro i x H1 hx ⟨hs, s1, d1, l1, A1⟩
      obtain ⟨ea, hea, rfl⟩ : ∃ ea, es[i]? = some ea ∧ x = V.ref ea := by
        rw [List.getElem?_map] at hx
        cases z : es[i]? with
        | none =>
          rw [z] at hx
          cases hx
        | some ea =>
          rw [z] at hx
          exact ⟨ea, rfl, (Option.some.inj hx).symm⟩
      have hi : i < es.length := (List.getElem?_eq_some_iff.mp hea).1
      have hel := hE.len
      obtain ⟨en, hen, hent⟩ := hE.get hea
      have hmem : en ∈ l := List.mem_of_getElem? hen
      refine ⟨rfl, _, rfl, _, rfl, ea, b, en, q, rfl, hent.same s1, hQ.same s1, hls en hmem, hlq, fun H2 s2 => ?_⟩
      obtain ⟨dx, qa, t, g1, g2, g3⟩ := hent
      have s12 := s1.trans s2
      refine ⟨_, rfl, ea, CE, dx, _, _, rfl, s12 _ _ g1, TE.cl, TE.n1, entF_number _ qa t, _, rfl, ea, CE, dx, _, _, rfl, s12 _ _ g1, TE.cl, TE.n3, entF_tr _ qa t, ?_⟩
      intro x dy nx nd ne
      refine ⟨x, dy, _, rfl, rfl, upd_same, fun H3 m1 m2 => ⟨rfl, ?_⟩⟩
      have s3 : Same H2 H3 := Same.made nx nd m2
      have d3 := (s2.trans s3) _ _ d1
      have s13 := s12.trans s3
      refine ⟨_, d3, small (by rw [List.length_map]; omega), hs ++ [x], Same.over s13 hD, ?_, ?_, ?_⟩
      · rw [upd_same, List.map_append]
        rfl
      · rw [List.length_append, List.length_singleton, l1]
      · rw [take_more hen, List.map_append]
        refine All2.snoc (R := HitIn CH H _) ⟨dy, t, ?_, g3⟩ (A1.imp fun h y z => ?_)
        · rw [upd_ne (ne_of m1 d3 (by intro z; cases z)), m1]
          rfl
        · obtain ⟨dz, t', z1, z2⟩ := z
          have z3 := (s2.trans s3) _ _ z1
          exact ⟨dz, t', by rw [upd_ne (ne_of z3 d3 (by intro z; cases z))]; exact z3, z2⟩
    · rintro H1 ⟨hs, s1, d1, l1, A1⟩
      have hel := hE.len
      rw [List.length_map, hel, List.take_length] at A1
      have A2 : All2 (HitAt CH H1) hs (l.map (hitFor q)) := A1.imp fun h y z => z.hit s1
      have hhl : hs.length = l.length := by rw [A2.len, List.length_map]
      refine ⟨_, rfl, D, rfl, ⟨_, SqL.of d1⟩, fun D2 hD2 => lc_list (K := K) (a := D) (xs := hs.map V.ref) (fun i H2 => ∃ ns : List Addr, Same H1 H2 ∧ H2 D2 = some (.lst (ns.map V.ref)) ∧ ns.length ≤ i ∧ All2 (HitAt CH H1) ns (((l.map (hitFor q)).take i).filter fun y => decide (least ≤ y.1))) ?_ (fun i H2 _ ⟨_, s2, _⟩ => s2.seq (SqL.of d1)) ?_ ?_⟩
      · exact ⟨[], Same.new hD2, upd_same, Nat.le_refl _, .nil⟩
      · rintro i x H2 hx ⟨ns, s2, d2, l2, B1⟩
        obtain ⟨h, hh, rfl⟩ : ∃ h, hs[i]? = some h ∧ x = V.ref h := by
          rw [List.getElem?_map] at hx
          cases z : hs[i]? with
          | none =>
            rw [z] at hx
            cases hx
          | some h =>
            rw [z] at hx
            exact ⟨h, rfl, (Option.some.inj hx).symm⟩
        have hi : i < hs.length := (List.getElem?_eq_some_iff.mp hh).1
        obtain ⟨y, hy, hhit⟩ := A2.get hh
        obtain ⟨dx, t, g1, g2⟩ := id hhit
        refine ⟨rfl, _, rfl, h, CH, dx, _, _, rfl, s2 _ _ g1, TH.cl, TH.n1, hitF_score _ _ t, _, rfl, _, _, rfl, rfl, _, rfl, ?_⟩
        have ef := take_more hy
        refine ite2 (fun c => ?_) (fun c => ?_)
        · have c' : least ≤ y.1 := by
            have z := of_decide_eq_true c
            omega
          refine ⟨_, rfl, _, d2, small (by rw [List.length_map]; omega), ns ++ [h], Same.over s2 hD2, ?_, ?_, ?_⟩
          · rw [upd_same, List.map_append]
            rfl
          · rw [List.length_append, List.length_singleton]
            omega
          · rw [ef, List.filter_append, List.filter_cons_of_pos (p := fun y : Hit => decide (least ≤ y.1)) (decide_eq_true c'), List.filter_nil]
            exact All2.snoc (R := HitAt CH H1) hhit B1
        · have c' : ¬ least ≤ y.1 := fun z => c (decide_eq_true (by omega))
          refine ⟨ns, s2, d2, by omega, ?_⟩
          rw [ef, List.filter_append, List.filter_cons_of_neg (p := fun y : Hit => decide (least ≤ y.1)) (by simpa using c'), List.filter_nil, List.append_nil]
          exact B1
      · rintro H2 ⟨ns, s2, d2, l2, B1⟩
        rw [List.length_map, A2.len, List.take_length] at B1
        have B2 : All2 (HitAt CH H2) ns (enough l q least) := B1.imp fun h y z => z.same s2
        have nn := enough_nodup q least hnd
        refine ⟨_, rfl, D2, ns.map V.ref, kfOf H2, rfl, (hT.ext s1).ext s2, SqL.of d2, ?_, ?_, ?_⟩
        · intro y hy
          obtain ⟨h, _, rfl⟩ := List.mem_map.mp hy
          exact ⟨h, rfl⟩
        · intro y hy H3 Q3 x3 hq
          obtain ⟨h, hm, rfl⟩ := List.mem_map.mp hy
          obtain ⟨z, _, hz⟩ := B2.mem hm
          have hkf := kfOf_hit hz
          obtain ⟨dx, t, g1, g2⟩ := hz.ext x3
          rw [hkf] at hq
          exact ⟨_, rfl, h, CH, dx, _, _, rfl, g1, TH.cl, TH.n1, hitF_score _ _ t, _, rfl, h, CH, dx, _, _, rfl, g1, TH.cl, TH.n2, hitF_number _ _ t, by show 2 ≤ sizeLine; decide, fun p hp => hq p hp⟩
        · intro zs p H3 pz sz x3 T3 d3
          obtain ⟨fs, ez, A3⟩ := sorted_hits B2 nn pz sz
          have d3' : H3 p = some (.lst (fs.map V.ref)) := by
            rw [d3, if_pos rfl, ez]
          have hfl : fs.length ≤ 1000 := by
            rw [A3.len, (sortH_perm _).length_eq]
            refine Nat.le_trans (List.length_filter_le _ _) ?_
            rw [List.length_map]
            exact hl
          refine ⟨_, rfl, p, fs, _, rfl, SqL.of d3', A3.imp fun h y z => z.ext x3, hfl, fun H4 r gs s4 _ d4 A4 => ?_⟩
          exact k H4 r gs (((LamX.ExtN.of (s1.trans s2)).trans x3).trans (.of s4)) (T3.ext s4) d4 A4
end
end TM

set_option Elab.async false
set_option linter.all false
set_option maxRecDepth 100000
set_option maxHeartbeats 2000000
namespace TM
open PySem PySem.Spec PyProof.Rows L2
/-- all but the object at r stands -/
def But (r : Addr) (H H' : Hp) : Prop := ∀ b o, H b = some o → b ≠ r → H' b = some o
theorem But.refl {r : Addr} {H : Hp} : But r H H := fun _ _ e _ => e
theorem But.trans {r : Addr} {H H1 H2 : Hp} (a : But r H H1) (b : But r H1 H2) : But r H H2 := fun c o e n => b c o (a c o e n) n
theorem But.of {r : Addr} {H H' : Hp} (s : Same H H') : But r H H' := fun c o e _ => s c o e
theorem But.upd {r : Addr} {H : Hp} {o : HO} : But r H (upd H r o) := fun c u e n => (upd_ne n).trans e
theorem But.seq {K : PySem.W.Frag} {r a : Addr} {H H' : Hp} {C dx : Addr} {fs : List (Sg × V)} {xs : List V} (x : But r H H') (hr : H r = some (.ins C dx fs)) (h : SqL K H a xs) : SqL K H' a xs := by
  rcases h with (d | ⟨o, d⟩) | d
  · exact .inl (.inl (x _ _ d (ne_of d hr (by intro z; cases z))))
  · exact .inl (.inr ⟨o, x _ _ d (ne_of d hr (by intro z; cases z))⟩)
  · exact .inr d
theorem But.free {r p : Addr} {H H' : Hp} {o : HO} (x : But r H H') (hr : H' r = some o) (h : H' p = none) : H p = none := by
  cases z : H p with
  | none => rfl
  | some u =>
    by_cases e : p = r
    · rw [e, hr] at h
      cases h
    · rw [x p u z e] at h
      cases h
/-- an ask that was made behind H, its sentence too -/
def AskNew (C : Addr) (H H' : Hp) (a : Addr) (q : Ut03.Ask) : Prop := ∃ dx p, H' a = some (.ins C dx (askF q p)) ∧ H' p = some (.lst (iv q.source)) ∧ H a = none ∧ H p = none
theorem AskNew.at {C : Addr} {H H' : Hp} {a : Addr} {q : Ut03.Ask} (h : AskNew C H H' a q) : AskAt C H' a q := by
  obtain ⟨dx, p, h1, h2, _⟩ := h
  exact ⟨dx, p, h1, h2⟩
def rdF (a : Addr) (n : Nat) : List (Sg × V) := [("numbers", .ref a), ("place", .int (n : Int))]
theorem rdF_numbers (a : Addr) (n : Nat) : (rdF a n).lookup ("numbers" : Sg) = some (.ref a) := lk_here
theorem rdF_place (a : Addr) (n : Nat) : (rdF a n).lookup ("place" : Sg) = some (.int (n : Int)) := (lk_past (by decide +kernel)).trans lk_here
theorem rdF_no (a : Addr) (n : Nat) {m : Sg} (h1 : (m == ("numbers" : Sg)) = false) (h2 : (m == ("place" : Sg)) = false) : (rdF a n).lookup m = none := (lk_past h1).trans ((lk_past h2).trans rfl)
theorem rdF_put (a : Addr) (n : Nat) (z : Int) (m : Nat) (h : z = (m : Int)) : putF "place" (.int z) (rdF a n) = rdF a m := by
  rw [h]
  exact (put_past (by decide +kernel)).trans (congrArg _ put_here)
def RdAt (C : Addr) (H : Hp) (r a : Addr) (n : Nat) : Prop := ∃ dx, H r = some (.ins C dx (rdF a n))
theorem RdAt.same {C : Addr} {H H' : Hp} {r a : Addr} {n : Nat} (s : Same H H') (h : RdAt C H r a n) : RdAt C H' r a n := by
  obtain ⟨dx, h⟩ := h
  exact ⟨dx, s _ _ h⟩
theorem RdAt.seq {K : PySem.W.Frag} {C r a : Addr} {n : Nat} {H H' : Hp} {b : Addr} {xs : List V} (h : RdAt C H r a n) (x : But r H H') (q : SqL K H b xs) : SqL K H' b xs := by
  obtain ⟨dx, h⟩ := h
  exact x.seq h q
abbrev sRdI : Stmt := inClass (top 33) 0
abbrev sRdE : Stmt := inClass (top 33) 1
abbrev sRdN : Stmt := inClass (top 33) 2
abbrev sRdR : Stmt := inClass (top 33) 3
abbrev sRdA : Stmt := inClass (top 33) 4
/-- a method of a class -/
structure MethAt (K : PySem.W.Frag) (C : Addr) (name qual : Sg) (st : Stmt) (ps : List Sg) (f : Addr) (fd : FuncData) : Prop where
  F : Fun K name qual st f fd
  b : Binds K fd ps []
  m : Meth K C name f
structure RdC (K : PySem.W.Frag) (mg : Sg → Option Value) (C f : Addr) (fd : FuncData) : Prop where
  cl : Cls K C
  n1 : NoAttr K C "numbers"
  n2 : NoAttr K C "place"
  g : mg "Reader" = some (.ref C)
  M : Mk K C f
  F : Fun K "__init__" "Reader.__init__" sRdI f fd
  b : Binds K fd ["self", "numbers"] []
section
variable {P : Program} {w : World} {K : PySem.W.Frag} {mg : Sg → Option Value} {base : Heap}
theorem scRdI : FnScope ["self", "numbers"] ["self", "numbers"] (defScope sRdI) := ⟨rfl, rfl, rfl, by decide +kernel, rfl, by decide +kernel, by decide +kernel⟩
def spRdI (C : Addr) : Sp := fun vs H Q _ => ∃ (p dx a : Addr), vs = [.ref p, .ref a] ∧ H p = some (.ins C dx []) ∧ ∀ H' : Hp, H' p = some (.ins C dx (rdF a 0)) → (∀ b o, H b = some o → b ≠ p → H' b = some o) → Q .non H'
theorem ok_rdI {C f : Addr} {fd : FuncData} (T : RdC K mg C f fd) : FnOk P w K mg base CX0 1 f fd ["self", "numbers"] (spRdI C) := by
  refine T.F.ok scRdI (fun vs H Q E h => ?_) (fun cdv A outer s H vs Q E hr h => ?_)
  · obtain ⟨p, dx, a, rfl, _⟩ := h
    rfl
  · obtain ⟨p, dx, a, rfl, hp, k⟩ := h
    refine ⟨_, pss_cons (ps_fld (pv 0) (pv 1) rfl) (pss_one (ps_fld (pv 0) pe_int rfl)), ?_⟩
    refine ⟨_, rfl, _, rfl, p, C, dx, [], rfl, hp, T.cl, T.n1, (by show 0 < 1000; decide), ?_⟩
    refine ⟨_, rfl, p, C, dx, _, rfl, upd_same, T.cl, T.n2, (by show 1 < 1000; decide), ?_⟩
    refine k _ ?_ fun b o e hb => by
      rw [upd_ne hb, upd_ne hb]
      exact e
    rw [upd_same, put2 (by decide +kernel)]
    rfl
/-! ### at_end -/
theorem scRdE : FnScope ["self"] ["self"] (defScope sRdE) := ⟨rfl, rfl, rfl, by decide +kernel, rfl, by decide +kernel, by decide +kernel⟩
def spRdE (K : PySem.W.Frag) (C : Addr) : Sp := fun vs H Q _ => ∃ (r a : Addr) (n : Nat) (ns : List Nat), vs = [.ref r] ∧ RdAt C H r a n ∧ SqL K H a (iv ns) ∧ Q (.bl (decide (ns.length ≤ n))) H
theorem ok_rdE {C f fI : Addr} {fd fdI : FuncData} (B : Bt mg) (T : RdC K mg C fI fdI) (D : MethAt K C "at_end" "Reader.at_end" sRdE ["self"] f fd) : FnOk P w K mg base CX0 1 f fd ["self"] (spRdE K C) := by
  refine D.F.ok scRdE (fun vs H Q E h => ?_) (fun cdv A outer s H vs Q E hr h => ?_)
  · obtain ⟨r, a, n, ns, rfl, _⟩ := h
    rfl
  · obtain ⟨r, a, n, ns, rfl, ⟨dx, hR⟩, hS, k⟩ := h
    refine ⟨_, pss_one (ps_ret (pe_cmpR op_ge (pe_fld (pv 0) rfl) (pe_callB call_len_seq (by rfl) B.len PySem.boot_len (pa_cons (pe_fld (pv 0) rfl) pa_nil)) (nomark _))), ?_⟩
    refine ⟨_, rfl, r, C, dx, _, _, rfl, hR, T.cl, T.n2, rdF_place a n, _, rfl, r, C, dx, _, _, rfl, hR, T.cl, T.n1, rdF_numbers a n, a, _, rfl, .inl hS, _, _, rfl, rfl, ?_⟩
    have e : decide (((iv ns).length : Int) ≤ (n : Int)) = decide (ns.length ≤ n) := by
      rw [iv_len]; exact decide_eq_decide.mpr (by omega)
    rw [← e] at k
    exact k
/-! ### read_number -/
theorem scRdN : FnScope ["self", "number"] ["self"] (defScope sRdN) := ⟨rfl, rfl, rfl, by decide +kernel, rfl, by decide +kernel, by decide +kernel⟩
def spRdN (K : PySem.W.Frag) (C : Addr) : Sp := fun vs H Q _ => ∃ (r a : Addr) (n x : Nat) (ns : List Nat), vs = [.ref r] ∧ RdAt C H r a n ∧ SqL K H a (iv ns) ∧ ns[n]? = some x ∧ ∀ H', RdAt C H' r a (n + 1) → But r H H' → Q (.int (x : Int)) H'
theorem ok_rdN {C f fI : Addr} {fd fdI : FuncData} (T : RdC K mg C fI fdI) (D : MethAt K C "read_number" "Reader.read_number" sRdN ["self"] f fd) : FnOk P w K mg base CX0 1 f fd ["self"] (spRdN K C) := by
  refine D.F.ok scRdN (fun vs H Q E h => ?_) (fun cdv A outer s H vs Q E hr h => ?_)
  · obtain ⟨r, a, n, x, ns, rfl, _⟩ := h
    rfl
  · obtain ⟨r, a, n, x, ns, rfl, ⟨dx, hR⟩, hS, hx, k⟩ := h
    refine ⟨_, pss_cons (ps_set (i := 1) scRdN.nd rfl (Or.inl rfl) (pe_ix ix_list (pe_fld (pv 0) rfl) (pe_fld (pv 0) rfl) (fun _ _ => rfl)))
      (pss_cons (ps_fld (pv 0) (pe_op op_add (pe_fld (pv 0) rfl) pe_int) rfl) (pss_one (ps_ret (pv 1)))), ?_⟩
    refine ⟨_, rfl, r, C, dx, _, _, rfl, hR, T.cl, T.n1, rdF_numbers a n, _, rfl, r, C, dx, _, _, rfl, hR, T.cl, T.n2, rdF_place a n, a, _, _, _, rfl, rfl, hS, atI_nat (iv_at hx), ?_⟩
    refine ⟨_, rfl, r, C, dx, _, _, rfl, hR, T.cl, T.n2, rdF_place a n, _, _, rfl, rfl, _, rfl, r, C, dx, _, rfl, hR, T.cl, T.n2, (by show 2 < 1000; decide), _, rfl, ?_⟩
    refine k _ ⟨dx, ?_⟩ But.upd
    rw [upd_same]
    exact congrArg (fun z => some (HO.ins C dx z)) (rdF_put a n _ (n + 1) (by omega))
/-! ### read_row -/
theorem cut_mid {ns : List Nat} {n m : Nat} (h : n + m ≤ ns.length) : cutV (iv ns) (some (n : Int)) (some ((n + m : Nat) : Int)) = iv ((ns.drop n).take m) := by
  unfold cutV
  rw [HT.sIx_nat, HT.sIx_nat, iv_len]
  have e1 : min n ns.length = n := by omega
  have e2 : min (n + m) ns.length - n = m := by omega
  rw [e1, e2]
  unfold iv; rw [List.map_take, List.map_drop]
abbrev nRdR : List Sg := ["self", "length", "start"]
theorem scRdR : FnScope nRdR ["self"] (defScope sRdR) := ⟨rfl, rfl, rfl, by decide +kernel, rfl, by decide +kernel, by decide +kernel⟩
def spRdR (K : PySem.W.Frag) (C : Addr) : Sp := fun vs H Q _ => ∃ (r a : Addr) (n m : Nat) (ns : List Nat), vs = [.ref r] ∧ RdAt C H r a n ∧ SqL K H a (iv ns) ∧ ns[n]? = some m ∧ n + 1 + m ≤ ns.length ∧
  ∀ (H' : Hp) (p : Addr), RdAt C H' r a (n + 1 + m) → But r H H' → H p = none → H' p = some (.lst (iv ((ns.drop (n + 1)).take m))) → Q (.ref p) H'
theorem ok_rdR {C f f1 fI : Addr} {fd fd1 fdI : FuncData} (T : RdC K mg C fI fdI) (D : MethAt K C "read_row" "Reader.read_row" sRdR ["self"] f fd) (D1 : MethAt K C "read_number" "Reader.read_number" sRdN ["self"] f1 fd1) : FnOk P w K mg base CX0 2 f fd ["self"] (spRdR K C) := by
  refine D.F.ok scRdR (fun vs H Q E h => ?_) (fun cdv A outer s H vs Q E hr h => ?_)
  · obtain ⟨r, a, n, m, ns, rfl, _⟩ := h
    rfl
  · obtain ⟨r, a, n, m, ns, rfl, hR0, hS, hm, hle, k⟩ := h
    obtain ⟨dx, hR⟩ := id hR0
    refine ⟨_, pss_cons (ps_set (i := 1) scRdR.nd rfl (Or.inl rfl) (pe_meth0 (pv 0) T.cl D1.m (ok_rdN T D1) hr D1.b .nil pass0))
      (pss_cons (ps_set (i := 2) scRdR.nd rfl (Or.inl rfl) (pe_fld (pv 0) rfl))
      (pss_cons (ps_fld (pv 0) (pe_op op_add (pv 2) (pv 1)) rfl)
      (pss_one (ps_ret (pe_slice sl_list (pe_fld (pv 0) rfl) (po_some (pv 2)) (po_some (pe_fld (pv 0) rfl))))))), ?_⟩
    refine ⟨_, rfl, r, dx, _, rfl, hR, rdF_no a n (by decide +kernel) (by decide +kernel), r, a, n, m, ns, rfl, hR0, hS, hm, fun H1 R1 b1 => ?_⟩
    have hS1 := b1.seq hR hS
    obtain ⟨d1, hR1⟩ := id R1
    refine ⟨_, rfl, r, C, d1, _, _, rfl, hR1, T.cl, T.n2, rdF_place a (n + 1), _, rfl, _, rfl, _, _, rfl, rfl, _, rfl, r, C, d1, _, rfl, hR1, T.cl, T.n2, (by show 2 < 1000; decide), ?_⟩
    have e2 := rdF_put a (n + 1) (((n + 1 : Nat) : Int) + (m : Int)) (n + 1 + m) (by omega)
    have hS2 : SqL K (upd H1 r (.ins C d1 (putF "place" (.int (((n + 1 : Nat) : Int) + (m : Int))) (rdF a (n + 1))))) a (iv ns) := But.upd.seq hR1 hS1
    have hR2 : upd H1 r (.ins C d1 (putF "place" (.int (((n + 1 : Nat) : Int) + (m : Int))) (rdF a (n + 1)))) r = some (.ins C d1 (rdF a (n + 1 + m))) := by rw [upd_same, e2]
    refine ⟨_, rfl, r, C, d1, _, _, rfl, hR2, T.cl, T.n1, rdF_numbers a (n + 1 + m), _, rfl, _, rfl, _, rfl, r, C, d1, _, _, rfl, hR2, T.cl, T.n2, rdF_place a (n + 1 + m), _, rfl, a, _, rfl, hS2, fun p hp => ?_⟩
    rw [cut_mid (n := n + 1) (m := m) hle]
    have nrp : r ≠ p := ne_of_none hR2 hp
    have hp1 : H1 p = none := by rw [upd_ne nrp.symm] at hp; exact hp
    have hp0 : H p = none := by
      cases z : H p with
      | none => rfl
      | some o =>
        rw [b1 p o z nrp.symm] at hp1
        cases hp1
    refine k _ p ⟨d1, by rw [upd_ne nrp]; exact hR2⟩ ((b1.trans But.upd).trans (But.of (Same.new hp))) hp0 upd_same
/-! ### read_ask -/
abbrev nRdA : List Sg := ["self", "ahead", "behind", "client"]
theorem scRdA : FnScope nRdA ["self"] (defScope sRdA) := ⟨rfl, rfl, rfl, by decide +kernel, rfl, by decide +kernel, by decide +kernel⟩
def spRdA (K : PySem.W.Frag) (C CA : Addr) : Sp := fun vs H Q _ => ∃ (r a : Addr) (n x y z m : Nat) (ns : List Nat), vs = [.ref r] ∧ RdAt C H r a n ∧ SqL K H a (iv ns) ∧ ns[n]? = some x ∧ ns[n + 1]? = some y ∧ ns[n + 2]? = some z ∧ ns[n + 3]? = some m ∧ n + 4 + m ≤ ns.length ∧
  ∀ (H' : Hp) (q : Addr), RdAt C H' r a (n + 4 + m) → But r H H' → AskNew CA H H' q ⟨(ns.drop (n + 4)).take m, x, y, z⟩ → Q (.ref q) H'
theorem ok_rdA {C f f1 f2 fI CA fA : Addr} {fd fd1 fd2 fdI fdA : FuncData} (T : RdC K mg C fI fdI) (TA : AskC K mg CA fA fdA) (D : MethAt K C "read_ask" "Reader.read_ask" sRdA ["self"] f fd) (D2 : MethAt K C "read_row" "Reader.read_row" sRdR ["self"] f2 fd2) (D1 : MethAt K C "read_number" "Reader.read_number" sRdN ["self"] f1 fd1) :
    FnOk P w K mg base CX0 3 f fd ["self"] (spRdA K C CA) := by
  refine D.F.ok scRdA (fun vs H Q E h => ?_) (fun cdv A outer s H vs Q E hr h => ?_)
  · obtain ⟨r, a, n, x, y, z, m, ns, rfl, _⟩ := h
    rfl
  · obtain ⟨r, a, n, x, y, z, m, ns, rfl, hR0, hS, hx, hy, hz, hm, hle, k⟩ := h
    have hr1 : Room 1 _ := hr.mono (by decide)
    obtain ⟨dx, hR⟩ := id hR0
    refine ⟨_, pss_cons (ps_set (i := 1) scRdA.nd rfl (Or.inl rfl) (pe_meth0 (pv 0) T.cl D1.m (ok_rdN T D1) hr1 D1.b .nil pass0))
      (pss_cons (ps_set (i := 2) scRdA.nd rfl (Or.inl rfl) (pe_meth0 (pv 0) T.cl D1.m (ok_rdN T D1) hr1 D1.b .nil pass0))
      (pss_cons (ps_set (i := 3) scRdA.nd rfl (Or.inl rfl) (pe_meth0 (pv 0) T.cl D1.m (ok_rdN T D1) hr1 D1.b .nil pass0))
      (pss_one (ps_ret (pe_make TA.M (ok_askI TA) hr rfl TA.g TA.b .nil pass0 (pa_cons (pv 1) (pa_cons (pv 2) (pa_cons (pv 3) (pa_cons (pe_meth0 (pv 0) T.cl D2.m (ok_rdR T D2 D1) hr D2.b .nil pass0) pa_nil))))))))), ?_⟩
    refine ⟨_, rfl, r, dx, _, rfl, hR, rdF_no a n (by decide +kernel) (by decide +kernel), r, a, n, x, ns, rfl, hR0, hS, hx, fun H1 R1 b1 => ?_⟩
    have hS1 := b1.seq hR hS
    obtain ⟨d1, hR1⟩ := id R1
    refine ⟨_, rfl, r, d1, _, rfl, hR1, rdF_no a _ (by decide +kernel) (by decide +kernel), r, a, n + 1, y, ns, rfl, R1, hS1, hy, fun H2 R2 b2 => ?_⟩
    have hS2 := b2.seq hR1 hS1
    obtain ⟨d2, hR2⟩ := id R2
    refine ⟨_, rfl, r, d2, _, rfl, hR2, rdF_no a _ (by decide +kernel) (by decide +kernel), r, a, n + 2, z, ns, rfl, R2, hS2, hz, fun H3 R3 b3 => ?_⟩
    have hS3 := b3.seq hR2 hS2
    obtain ⟨d3, hR3⟩ := id R3
    refine ⟨_, rfl, _, rfl, _, rfl, _, rfl, r, d3, _, rfl, hR3, rdF_no a _ (by decide +kernel) (by decide +kernel), r, a, n + 3, m, ns, rfl, R3, hS3, hm, by omega, fun H4 p R4 b4 np d4 => ?_⟩
    intro u du nu nd ne
    refine ⟨u, du, _, rfl, rfl, upd_same, fun H5 m1 m2 => ⟨rfl, ?_⟩⟩
    have s5 : Same H4 H5 := Same.made nu nd m2
    have e4 : n + 3 + 1 + m = n + 4 + m := by omega
    rw [e4] at R4
    have b14 := ((b1.trans b2).trans b3).trans b4
    obtain ⟨d4', hR4⟩ := id R4
    exact k H5 u (R4.same s5) (b14.trans (But.of s5)) ⟨du, p, m1, s5 _ _ d4, b14.free hR4 nu, ((b1.trans b2).trans b3).free hR3 np⟩
end
end TM

set_option Elab.async false
set_option linter.all false
set_option maxRecDepth 100000
set_option maxHeartbeats 2000000
namespace TM
open PySem PySem.Spec PyProof.Rows L2
structure Cr (mg : Sg → Option Value) : Prop where
  wrong : ∃ t, mg "WRONG_INPUT" = some (.int 1 t)
  none : ∃ t, mg "NO_SUCH_ENTRY" = some (.int 2 t)
  many : ∃ t, mg "TOO_MANY_ENTRIES" = some (.int 5 t)
  empty : ∃ t, mg "EMPTY_MEMORY" = some (.int 6 t)
  most : ∃ t, mg "MOST_ENTRIES" = some (.int 30 t)
  undo : ∃ t, mg "NOTHING_TO_UNDO" = some (.int 7 t)
  asks : ∃ t, mg "MOST_ASKS" = some (.int 10 t)
/-- what stands there is new, but for a table -/
def Nu (H : Hp) (p : Addr) : Prop := ∀ o, H p = some o → ∃ ps, o = .tbl ps
theorem Nu.ext {H H1 : Hp} {p : Addr} (x : LamX.ExtN H H1) (h : H1 p = none) : Nu H p := fun o e => by
  by_cases c : ∃ ps, o = .tbl ps
  · exact c
  · rw [x p o e fun ps z => c ⟨ps, z⟩] at h
    cases h
theorem Nu.back {H H1 : Hp} {p : Addr} (x : LamX.ExtN H H1) (h : Nu H1 p) : Nu H p := fun o e => by
  by_cases c : ∃ ps, o = .tbl ps
  · exact c
  · exact h o (x p o e fun ps z => c ⟨ps, z⟩)
/-- an answer: a list of whole numbers is handed back; nothing of what stood is changed but the tables -/
def AnsTo (T : List (Addr × Sg)) (H : Hp) (Q : VK) (ans : List Int) : Prop := ∀ (H' : Hp) (p : Addr), LamX.ExtN H H' → LamX.Tabs T H' → Nu H p → H' p = some (.lst (ans.map V.int)) → Q (.ref p) H'
/-- the entries that the store at st holds -/
def EntsOf (CS CE CA : Addr) (H : Hp) (st : Addr) (l : List Ut03.Entry) : Prop := ∃ (dx : Addr) (fs : List (Sg × V)) (a : Addr) (es : List Addr), H st = some (.ins CS dx fs) ∧ fs.lookup ("entries" : Sg) = some (.ref a) ∧ fs.lookup ("entry_with" : Sg) = none ∧ H a = some (.lst (es.map V.ref)) ∧ All2 (EntAt CE CA H) es l
theorem EntsOf.ext {CS CE CA : Addr} {H H' : Hp} {st : Addr} {l : List Ut03.Entry} (x : LamX.ExtN H H') (h : EntsOf CS CE CA H st l) : EntsOf CS CE CA H' st l := by
  obtain ⟨dx, fs, a, es, h1, h2, h3, h4, h5⟩ := h
  exact ⟨dx, fs, a, es, x _ _ h1 (fun _ z => by cases z), h2, h3, x _ _ h4 (fun _ z => by cases z), h5.imp fun e y z => z.ext x⟩
section
variable {P : Program} {w : World} {K : PySem.W.Frag} {mg : Sg → Option Value} {base : Heap}
/-! ### refusal -/
abbrev sRef : Stmt := top 41
def spRef : Sp := fun vs H Q _ => ∃ (r : Int), vs = [.int r] ∧ ∀ p, H p = none → Q (.ref p) (upd H p (.lst [.int (-r)]))
theorem scRef : FnScope ["reason"] ["reason"] (defScope sRef) := ⟨rfl, rfl, rfl, by decide +kernel, rfl, by decide +kernel, by decide +kernel⟩
theorem ok_ref {f : Addr} {fd : FuncData} (D : DefAt K mg "refusal" sRef ["reason"] f fd) : FnOk P w K mg base CX0 1 f fd ["reason"] spRef := by
  refine D.F.ok scRef (fun vs H Q E h => ?_) (fun cdv A outer s H vs Q E hr h => ?_)
  · obtain ⟨r, rfl, _⟩ := h
    rfl
  · obtain ⟨r, rfl, k⟩ := h
    refine ⟨_, pss_one (ps_ret (pe_lst (pa_cons (pe_un un_neg (pv 0)) pa_nil))), ?_⟩
    exact ⟨_, rfl, _, rfl, by show 1 ≤ sizeLine; decide, fun p hp => k p hp⟩
/-- a refusal is an answer -/
theorem ref_ans {T : List (Addr × Sg)} {H H1 : Hp} {Q : VK} {r : Int} (s : Same H H1) (hT : LamX.Tabs T H) (k : AnsTo T H Q [-r]) : ∀ p, H1 p = none → Q (.ref p) (upd H1 p (.lst [.int (-r)])) := fun p hp =>
  k _ p (.of (s.trans (Same.new hp))) (hT.ext (s.trans (Same.new hp))) (Nu.ext (.of s) hp) upd_same
abbrev sStI : Stmt := inClass (top 45) 0
structure StC (K : PySem.W.Frag) (mg : Sg → Option Value) (C f : Addr) (fd : FuncData) : Prop where
  cl : Cls K C
  n1 : NoAttr K C "entries"
  n2 : NoAttr K C "next_number"
  n3 : NoAttr K C "earlier"
  g : mg "Store" = some (.ref C)
  M : Mk K C f
  F : Fun K "__init__" "Store.__init__" sStI f fd
  b : Binds K fd ["self"] []
/-! ### entry_with -/
abbrev sEw : Stmt := inClass (top 45) 12
abbrev nEw : List Sg := ["self", "number", "entry"]
def spEw (CS CE CA : Addr) : Sp := fun vs H Q _ => ∃ (st : Addr) (n : Nat) (l : List Ut03.Entry), vs = [.ref st, .int (n : Int)] ∧ EntsOf CS CE CA H st l ∧ (l.find? (fun e => e.number == n) = none → Q .non H) ∧
  ∀ e a, l.find? (fun e => e.number == n) = some e → EntAt CE CA H a e → Q (.ref a) H
theorem scEw : FnScope nEw ["self", "number"] (defScope sEw) := ⟨rfl, rfl, rfl, by decide +kernel, rfl, by decide +kernel, by decide +kernel⟩
theorem find_more {l : List Ut03.Entry} {i n : Nat} {e : Ut03.Entry} (h : l[i]? = some e) (hp : (l.take i).find? (fun e => e.number == n) = none) : (l.take (i + 1)).find? (fun e => e.number == n) = if e.number = n then some e else none := by
  rw [take_more h, List.find?_append, hp]
  show ([e] : List Ut03.Entry).find? (fun e => e.number == n) = _
  by_cases c : e.number = n
  · rw [if_pos c, List.find?_cons_of_pos (by simpa using c)]
  · rw [if_neg c, List.find?_cons_of_neg (by simpa using c)]
    rfl
theorem find_take {l : List Ut03.Entry} {i n : Nat} {e : Ut03.Entry} (h : (l.take i).find? (fun e => e.number == n) = some e) : l.find? (fun e => e.number == n) = some e := by
  have q : (l.take i ++ l.drop i).find? (fun e => e.number == n) = some e := by rw [List.find?_append, h]; rfl
  rwa [List.take_append_drop] at q
theorem ok_ew {f CS CE fE CA fS : Addr} {fd fdE fdS : FuncData} (TS : StC K mg CS fS fdS) (TE : EntC K mg CE fE fdE) (D : MethAt K CS "entry_with" "Store.entry_with" sEw ["self", "number"] f fd) : FnOk P w K mg base CX0 1 f fd ["self", "number"] (spEw CS CE CA) := by
  refine D.F.ok scEw (fun vs H Q E h => ?_) (fun cdv A outer s H vs Q E hr h => ?_)
  · obtain ⟨st, n, l, rfl, _⟩ := h
    rfl
  · obtain ⟨st, n, l, rfl, ⟨dx, fs, a, es, h1, h2, h3, h4, h5⟩, kN, kS⟩ := h
    refine ⟨_, pss_cons (ps_for PassesOwn.never rfl (pi_list (pe_fld (pv 0) rfl)) (pg_name (i := 2) scEw.nd rfl (Or.inl rfl))
        (pss_one (ps_if (pt_cmpR op_eq (pe_fld (pv 2) rfl) (pv 1) (nomark _)) (pss_one (ps_ret (pv 2))) pss_nil)))
      (pss_one (ps_ret pe_non)), ?_⟩
    refine ⟨_, rfl, st, CS, dx, _, _, rfl, h1, TS.cl, TS.n1, h2, a, rfl, ⟨_, SqL.of h4⟩, for_list (K := K) (a := a) (xs := es.map V.ref) (fun i σ H1 => ∃ v2 : Option V, σ = [some (.ref st), some (.int (n : Int)), v2] ∧ H1 = H ∧ (l.take i).find? (fun e => e.number == n) = none) ⟨none, rfl, rfl, by simp⟩ (fun i σ H1 _ ⟨_, _, e, _⟩ => by rw [e]; exact SqL.of h4) ?_ ?_⟩
    · rintro i x σ H1 hx ⟨v2, rfl, rfl, hno⟩
      obtain ⟨ea, hea, rfl⟩ : ∃ ea, es[i]? = some ea ∧ x = V.ref ea := by
        rw [List.getElem?_map] at hx
        cases z : es[i]? with
        | none =>
          rw [z] at hx
          cases hx
        | some ea =>
          rw [z] at hx
          exact ⟨ea, rfl, (Option.some.inj hx).symm⟩
      obtain ⟨en, hen, hent⟩ := h5.get hea
      obtain ⟨de, qa, t, g1, g2, g3⟩ := id hent
      have fm := find_more (n := n) hen hno
      refine ⟨_, rfl, ea, CE, de, _, _, rfl, g1, TE.cl, TE.n1, entF_number _ qa t, _, rfl, rfl, _, rfl, ?_⟩
      refine ite2 (fun c => ?_) (fun c => ?_)
      · have c' : en.number = n := by have z := of_decide_eq_true (vint_eq ▸ c); omega
        rw [if_pos c'] at fm
        exact ⟨_, rfl, kS en ea (find_take fm) hent⟩
      · have c' : ¬ en.number = n := fun z => c (vint_eq ▸ decide_eq_true (by omega))
        rw [if_neg c'] at fm
        exact ⟨_, rfl, rfl, fm⟩
    · rintro σ H1 ⟨v2, rfl, rfl, hno⟩
      rw [List.length_map, h5.len, List.take_length] at hno
      exact kN hno
end
end TM

set_option Elab.async false
set_option linter.all false
set_option maxRecDepth 100000
set_option maxHeartbeats 2000000
namespace TM
open PySem PySem.Spec PyProof.Rows L2
abbrev sTold : Stmt := top 9
abbrev sFirstT : Stmt := top 30
abbrev sAsksIn : Stmt := top 34
abbrev sPut : Stmt := inClass (top 45) 1
abbrev sTake : Stmt := inClass (top 45) 2
abbrev sFind : Stmt := inClass (top 45) 3
abbrev sBest : Stmt := inClass (top 45) 4
abbrev sWayM : Stmt := inClass (top 45) 5
abbrev sWith : Stmt := inClass (top 45) 6
abbrev sFill : Stmt := inClass (top 45) 7
abbrev sEntry : Stmt := inClass (top 45) 8
abbrev sCount : Stmt := inClass (top 45) 9
abbrev sUndo : Stmt := inClass (top 45) 10
abbrev sChg : Stmt := inClass (top 45) 11
abbrev sAnswers : Stmt := top 59
abbrev sNext : Stmt := top 60
abbrev sAPut : Stmt := top 61
abbrev sAFind : Stmt := top 62
abbrev sAWay : Stmt := top 63
abbrev sAFill : Stmt := top 64
abbrev sANear : Stmt := top 65
/-- the calls' numbers -/
structure Cm (mg : Sg → Option Value) : Prop where
  put : ∃ t, mg "PUT" = some (.int 0 t)
  take : ∃ t, mg "TAKE" = some (.int 1 t)
  find : ∃ t, mg "FIND" = some (.int 2 t)
  best : ∃ t, mg "BEST" = some (.int 3 t)
  way : ∃ t, mg "WAY" = some (.int 4 t)
  with_ : ∃ t, mg "WITH_WORD" = some (.int 5 t)
  fill : ∃ t, mg "FILL" = some (.int 6 t)
  entry : ∃ t, mg "ENTRY" = some (.int 7 t)
  count : ∃ t, mg "COUNT" = some (.int 8 t)
  undo : ∃ t, mg "UNDO" = some (.int 9 t)
  near : ∃ t, mg "NEAR" = some (.int 10 t)
section
variable {P : Program} {w : World} {K : PySem.W.Frag} {mg : Sg → Option Value} {base : Heap}
/-! ### told_sentence -/
def spTold : Sp := fun vs H Q _ => ∃ (a : Addr) (l : List Nat), vs = [.ref a] ∧ H a = some (.lst (iv l)) ∧ l.length ≤ 1000 ∧ ∀ (H' : Hp) (r : Addr), Same H H' → H r = none → H' r = some (.lst (iv (l.length :: l))) → Q (.ref r) H'
theorem scTold : FnScope ["words"] ["words"] (defScope sTold) := ⟨rfl, rfl, rfl, by decide +kernel, rfl, by decide +kernel, by decide +kernel⟩
theorem ok_told {f : Addr} {fd : FuncData} (B : Bt mg) (D : DefAt K mg "told_sentence" sTold ["words"] f fd) : FnOk P w K mg base CX0 1 f fd ["words"] spTold := by
  refine D.F.ok scTold (fun vs H Q E h => ?_) (fun cdv A outer s H vs Q E hr h => ?_)
  · obtain ⟨a, l, rfl, _⟩ := h
    rfl
  · obtain ⟨a, l, rfl, ha, hl, k⟩ := h
    refine ⟨_, pss_one (ps_ret (pe_op op_cat (pe_lst (pa_cons (pe_callB call_len_seq (by rfl) B.len PySem.boot_len (pa_cons (pv 0) pa_nil)) pa_nil)) (pv 0))), ?_⟩
    refine ⟨_, rfl, a, _, rfl, .inl (SqL.of ha), by show 1 ≤ sizeLine; decide, fun v hv => ?_⟩
    have s1 : Same H (upd H v (.lst [V.int (((iv l).length : Nat) : Int)])) := Same.new hv
    refine ⟨_, rfl, v, a, _, _, rfl, rfl, upd_same, s1 _ _ ha, small' (by rw [iv_len]; show 1 + _ ≤ _; omega), fun p hp => ?_⟩
    have nvp : p ≠ v := fun z => by rw [z, upd_same] at hp; cases hp
    refine k _ p (s1.trans (Same.new hp)) (by rw [upd_ne nvp] at hp; exact hp) ?_
    rw [upd_same, iv_len]
    rfl
end
/-- what the top has written: every def, class and constant -/
structure Tx (K : PySem.W.Frag) (mg : Sg → Option Value) (base : Heap) where
  CA : Addr
  CE : Addr
  CH : Addr
  CR : Addr
  CS : Addr
  Pt : Addr
  cH : Addr
  fa : Nat → Addr
  fd : Nat → FuncData
  B : Bt mg
  C : Cs mg
  G : Ce mg
  R : Cr mg
  Mm : Cm mg
  A : AskC K mg CA (fa 0) (fd 0)
  E : EntC K mg CE (fa 1) (fd 1)
  Hc : HitC K mg CH (fa 2) (fd 2)
  sent : DefAt K mg "is_sentence" sSent ["words"] (fa 3) (fd 3)
  sentW : DefAt K mg "is_sentence_with_words" sSentW ["words"] (fa 4) (fd 4)
  rows : DefAt K mg "distance_rows" sRows ["first", "second"] (fa 5) (fd 5)
  row : DefAt K mg "row_with_word" sRow ["above", "word", "second"] (fa 6) (fd 6)
  dist : DefAt K mg "distance_between" sDist ["first", "second"] (fa 7) (fd 7)
  near : DefAt K mg "nearness_of" sNear ["first", "second"] (fa 8) (fd 8)
  way : DefAt K mg "way_between" sWay ["first", "second"] (fa 9) (fd 9)
  step : DefAt K mg "last_step" sStep ["rows", "first", "second"] (fa 10) (fd 10)
  isAsk : DefAt K mg "is_ask" sIsAsk ["ask"] (fa 11) (fd 11)
  sameN : DefAt K mg "same_neighbours" sSameN ["one", "other"] (fa 12) (fd 12)
  sameQ : DefAt K mg "same_ask" sSameQ ["one", "other"] (fa 13) (fd 13)
  score : DefAt K mg "score_of" sScore ["entry", "ask"] (fa 14) (fd 14)
  hitsF : FunC K "hits_for" sHits (fa 15) (fd 15) cH
  hits : DefAt K mg "hits_for" sHits pHits (fa 15) (fd 15)
  first : DefAt K mg "first_of_each_translation" sFirst ["hits"] (fa 16) (fd 16)
  ref : DefAt K mg "refusal" sRef ["reason"] (fa 17) (fd 17)
  ew : MethAt K CS "entry_with" "Store.entry_with" sEw ["self", "number"] (fa 18) (fd 18)
  told : DefAt K mg "told_sentence" sTold ["words"] (fa 19) (fd 19)
  firstT : DefAt K mg "first_told" sFirstT pHits (fa 20) (fd 20)
  Rd : RdC K mg CR (fa 21) (fd 21)
  rdE : MethAt K CR "at_end" "Reader.at_end" sRdE ["self"] (fa 22) (fd 22)
  rdN : MethAt K CR "read_number" "Reader.read_number" sRdN ["self"] (fa 23) (fd 23)
  rdR : MethAt K CR "read_row" "Reader.read_row" sRdR ["self"] (fa 24) (fd 24)
  rdA : MethAt K CR "read_ask" "Reader.read_ask" sRdA ["self"] (fa 25) (fd 25)
  asksIn : DefAt K mg "asks_in" sAsksIn ["row", "many"] (fa 26) (fd 26)
  S : StC K mg CS (fa 27) (fd 27)
  putM : MethAt K CS "put" "Store.put" sPut ["self", "ask", "translation"] (fa 28) (fd 28)
  takeM : MethAt K CS "take" "Store.take" sTake ["self", "number"] (fa 29) (fd 29)
  findM : MethAt K CS "find" "Store.find" sFind ["self", "least", "ask"] (fa 30) (fd 30)
  bestM : MethAt K CS "best" "Store.best" sBest ["self", "ask"] (fa 31) (fd 31)
  wayM : MethAt K CS "way" "Store.way" sWayM ["self", "number", "sentence"] (fa 32) (fd 32)
  withM : MethAt K CS "with_word" "Store.with_word" sWith ["self", "word"] (fa 33) (fd 33)
  fillM : MethAt K CS "fill" "Store.fill" sFill ["self", "least", "asks"] (fa 34) (fd 34)
  entryM : MethAt K CS "entry" "Store.entry" sEntry ["self", "number"] (fa 35) (fd 35)
  countM : MethAt K CS "count" "Store.count" sCount ["self"] (fa 36) (fd 36)
  undoM : MethAt K CS "undo" "Store.undo" sUndo ["self"] (fa 37) (fd 37)
  chg : MethAt K CS "change_to" "Store.change_to" sChg ["self", "entries"] (fa 38) (fd 38)
  next : DefAt K mg "answer_to_next" sNext ["store", "reader"] (fa 39) (fd 39)
  aPut : DefAt K mg "answer_to_put" sAPut ["store", "reader"] (fa 40) (fd 40)
  aFind : DefAt K mg "answer_to_find" sAFind ["store", "reader"] (fa 41) (fd 41)
  aWay : DefAt K mg "answer_to_way" sAWay ["store", "reader"] (fa 42) (fd 42)
  aFill : DefAt K mg "answer_to_fill" sAFill ["store", "reader"] (fa 43) (fd 43)
  aNear : DefAt K mg "answer_to_near" sANear ["reader"] (fa 44) (fd 44)
  tb : LamX.TabB base mg cH Pt
section
variable {P : Program} {w : World} {K : PySem.W.Frag} {mg : Sg → Option Value} {base : Heap}
namespace Tx
variable (X : Tx K mg base)
abbrev T : List (Addr × Sg) := [(X.Pt, lamQ)]
theorem gSent : FnOk P w K mg base CX0 1 (X.fa 3) (X.fd 3) ["words"] (spSent K) := ok_sent X.B X.C X.sent
theorem gIsAsk : FnOk P w K mg base CX0 3 (X.fa 11) (X.fd 11) ["ask"] (spIsAsk X.CA) := ok_isAsk X.B X.C X.G X.A X.isAsk X.sentW X.sent
theorem gSentW : FnOk P w K mg base CX0 2 (X.fa 4) (X.fd 4) ["words"] (spSentW K) := ok_sentW X.B X.C X.sentW X.sent
theorem gDist : FnOk P w K mg base CX0 3 (X.fa 7) (X.fd 7) ["first", "second"] (spTwo K Ut03.distance) := ok_dist X.B X.dist X.rows X.row
theorem gNear : FnOk P w K mg base CX0 4 (X.fa 8) (X.fd 8) ["first", "second"] (spTwo K Ut03.near) := ok_near X.B X.near X.dist X.rows X.row
theorem gWay : FnOk P w K mg base CX0 3 (X.fa 9) (X.fd 9) ["first", "second"] (spWay K) := ok_way X.B X.C X.way X.step X.rows X.row
theorem gSameQ : FnOk P w K mg base CX0 2 (X.fa 13) (X.fd 13) ["one", "other"] (spSameQ X.CA) := ok_sameQ X.A X.sameQ X.sameN
theorem gHits : FnOk P w K mg base CX0 6 (X.fa 15) (X.fd 15) pHits (spHits K X.CE X.CA X.CH X.Pt) := ok_hits X.B X.G X.A X.E X.Hc X.hitsF X.tb X.score X.sameN X.near X.dist X.rows X.row X.first
theorem gRef : FnOk P w K mg base CX0 1 (X.fa 17) (X.fd 17) ["reason"] spRef := ok_ref X.ref
theorem gEw : FnOk P w K mg base CX0 1 (X.fa 18) (X.fd 18) ["self", "number"] (spEw X.CS X.CE X.CA) := ok_ew X.S X.E X.ew
theorem gTold : FnOk P w K mg base CX0 1 (X.fa 19) (X.fd 19) ["words"] spTold := ok_told X.B X.told
theorem gEntI : FnOk P w K mg base CX0 1 (X.fa 1) (X.fd 1) pEntI (spInit X.CE 3 fEnt) := ok_entI X.E
theorem gRdI : FnOk P w K mg base CX0 1 (X.fa 21) (X.fd 21) ["self", "numbers"] (spRdI X.CR) := ok_rdI X.Rd
theorem gRdE : FnOk P w K mg base CX0 1 (X.fa 22) (X.fd 22) ["self"] (spRdE K X.CR) := ok_rdE X.B X.Rd X.rdE
theorem gRdN : FnOk P w K mg base CX0 1 (X.fa 23) (X.fd 23) ["self"] (spRdN K X.CR) := ok_rdN X.Rd X.rdN
theorem gRdR : FnOk P w K mg base CX0 2 (X.fa 24) (X.fd 24) ["self"] (spRdR K X.CR) := ok_rdR X.Rd X.rdR X.rdN
theorem gRdA : FnOk P w K mg base CX0 3 (X.fa 25) (X.fd 25) ["self"] (spRdA K X.CR X.CA) := ok_rdA X.Rd X.A X.rdA X.rdR X.rdN
end Tx
end
end TM

set_option Elab.async false
set_option linter.all false
set_option maxRecDepth 100000
set_option maxHeartbeats 2000000
namespace TM
open PySem PySem.Spec PyProof.Rows L2
section
variable {P : Program} {w : World} {K : PySem.W.Frag} {mg : Sg → Option Value} {base : Heap}
theorem ints_map (l : List Nat) : (Ut03.ints l).map V.int = iv l := by
  unfold Ut03.ints iv
  rw [List.map_map]
  rfl
/-! ### find -/
abbrev nFind : List Sg := ["self", "least", "ask", "hits", "answer", "hit"]
def spFind (X : Tx K mg base) : Sp := fun vs H Q _ => ∃ (st b : Addr) (least : Nat) (g : Ut03.St) (q : Ut03.Ask), vs = [.ref st, .int (least : Int), .ref b] ∧ EntsOf X.CS X.CE X.CA H st g.entries ∧ Good g ∧ AskAt X.CA H b q ∧ q.source.length ≤ 1000 ∧ LamX.Tabs X.T H ∧ AnsTo X.T H Q (Ut03.step g (.find least q)).2
theorem scFind : FnScope nFind ["self", "least", "ask"] (defScope sFind) := ⟨rfl, rfl, rfl, by decide +kernel, rfl, by decide +kernel, by decide +kernel⟩
theorem find_ans (g : Ut03.St) (least : Nat) (q : Ut03.Ask) : (Ut03.step g (.find least q)).2 = if Ut03.askOk q = false ∨ 102 < least then [-1] else ((foundH g.entries q least).length : Int) :: Ut03.ints ((foundH g.entries q least).flatMap fun x => [x.1, x.2.1]) := by
  show (if Ut03.askOk q = false ∨ 102 < least then [-1] else ((Ut03.found g.entries q least).length : Int) :: Ut03.ints ((Ut03.found g.entries q least).flatMap fun x => [x.1, x.2.number])) = _
  rw [find_hits]
theorem flat2_len : ∀ l : List Hit, (l.flatMap fun x => [x.1, x.2.1]).length = 2 * l.length
  | [] => rfl
  | x :: l => by
    rw [List.flatMap_cons, List.length_append, flat2_len l, List.length_cons]
    show 2 + 2 * l.length = 2 * l.length + 2
    omega
theorem hits_for_walk {CH : Addr} {H : Hp} {fs : List Addr} {xs : List Hit} {i : Nat} {x : V} (A : All2 (HitAt CH H) fs xs) (h : (fs.map V.ref)[i]? = some x) : ∃ a y, fs[i]? = some a ∧ x = V.ref a ∧ xs[i]? = some y ∧ HitAt CH H a y := by
  rw [List.getElem?_map] at h
  cases z : fs[i]? with
  | none =>
    rw [z] at h
    cases h
  | some a =>
    rw [z] at h
    obtain ⟨y, hy, r⟩ := A.get z
    exact ⟨a, y, rfl, (Option.some.inj h).symm, hy, r⟩
theorem ok_find (X : Tx K mg base) {f : Addr} {fd : FuncData} (D : MethAt K X.CS "find" "Store.find" sFind ["self", "least", "ask"] f fd) : FnOk P w K mg base CX0 7 f fd ["self", "least", "ask"] (spFind X) := by
  refine D.F.ok scFind (fun vs H Q E h => ?_) (fun cdv A outer s H vs Q E hr h => ?_)
  · obtain ⟨st, b, least, g, q, rfl, _⟩ := h
    rfl
  · obtain ⟨st, b, least, g, q, rfl, hE, hg, hq, hlq, hT, k⟩ := h
    obtain ⟨dx, fs, a, es, h1, h2, h3, h4, h5⟩ := id hE
    have hr3 : Room 3 _ := hr.mono (by decide)
    have hr1 : Room 1 _ := hr.mono (by decide)
    refine ⟨_, pss_cons (ps_if (PW.pt (pw_or (pt_cmpR op_gt (pv 1) (pe_gint rfl X.G.hs) (nomark _)) (pw_or1 (pt_not (pt_val (pe_call X.gIsAsk hr3 rfl X.isAsk.g X.isAsk.F.kp X.isAsk.b .nil pass0 (pa_cons (pv 2) pa_nil)))))))
        (pss_one (ps_ret (pe_call X.gRef hr1 rfl X.ref.g X.ref.F.kp X.ref.b .nil pass0 (pa_cons (pe_gint rfl X.R.wrong) pa_nil)))) pss_nil)
      (pss_cons (ps_set (i := 3) scFind.nd rfl (Or.inl rfl) (pe_call X.gHits hr rfl X.hits.g X.hits.F.kp X.hits.b .nil pass0 (pa_cons (pe_fld (pv 0) rfl) (pa_cons (pv 1) (pa_cons (pv 2) pa_nil)))))
      (pss_cons (ps_set (i := 4) scFind.nd rfl (Or.inl rfl) (pe_lst (pa_cons (pe_callB call_len_seq (by rfl) X.B.len PySem.boot_len (pa_cons (pv 3) pa_nil)) pa_nil)))
      (pss_cons (ps_for PassesOwn.never rfl (pi_list (pv 3)) (pg_name (i := 5) scFind.nd rfl (Or.inl rfl))
        (pss_one (ps_expr (pe_bm PySem.F.plainAttrs_list PySem.F.slot_list_extend PySem.F.type_list_extend mt_extend (pv 4) (pa_cons (pe_lst (pa_cons (pe_fld (pv 5) rfl) (pa_cons (pe_fld (pv 5) rfl) pa_nil))) pa_nil)))))
      (pss_one (ps_ret (pv 4)))))), ?_⟩
    rw [find_ans] at k
    refine ⟨_, rfl, _, _, rfl, rfl, _, rfl, ?_⟩
    refine ite2 (fun c => ?_) (fun c => ?_)
    · have c' : 102 < least := by have z := of_decide_eq_true c; omega
      rw [if_pos (.inr c')] at k
      refine iteT ?_
      exact ⟨_, rfl, ref_ans (Same.refl H) hT k⟩
    · have c1 : ¬ 102 < least := fun z => c (decide_eq_true (by omega))
      refine ⟨_, rfl, b, q, rfl, hq, hlq, fun H1 s1 => ⟨_, rfl, ?_⟩⟩
      cases c2 : Ut03.askOk q with
      | false =>
        rw [if_pos (.inl c2)] at k
        exact ⟨_, rfl, ref_ans s1 hT k⟩
      | true =>
        rw [if_neg (fun z => z.elim (fun y => by rw [c2] at y; cases y) c1)] at k
        have x1 : LamX.ExtN H H1 := .of s1
        refine ⟨_, rfl, st, X.CS, dx, _, _, rfl, s1 _ _ h1, X.S.cl, X.S.n1, h2, _, rfl, _, rfl, a, b, least, es, g.entries, q, rfl, SqL.of (s1 _ _ h4), h5.imp fun e y z => z.same s1, hq.same s1, Nat.le_trans hg.now.len (by decide), fun e he => Nat.le_trans (hg.now.src e he) (by decide), hlq, hg.now.nd, hT.ext s1, fun H2 r ls x2 T2 d2 A2 => ?_⟩
        have hfl := foundH_len g.entries q least
        have hgl := hg.now.len
        have hll : ls.length ≤ 30 := by rw [A2.len]; omega
        refine ⟨_, rfl, r, _, rfl, .inl (SqL.of d2), by show 1 ≤ sizeLine; decide, fun p hp => ?_⟩
        have s3 : Same H2 (upd H2 p (.lst [V.int (((ls.map V.ref).length : Nat) : Int)])) := Same.new hp
        refine ⟨_, rfl, r, rfl, ⟨_, SqL.of (s3 _ _ d2)⟩, for_list (K := K) (a := r) (xs := ls.map V.ref) (fun i σ H3 => ∃ v5 : Option V, σ = [some (.ref st), some (.int (least : Int)), some (.ref b), some (.ref r), some (.ref p), v5] ∧ Same H2 H3 ∧
          H3 p = some (.lst (V.int ((ls.length : Nat) : Int) :: iv (((foundH g.entries q least).take i).flatMap fun x => [x.1, x.2.1])))) ?_ (fun i σ H3 _ ⟨_, _, s4, _⟩ => s4.seq (SqL.of d2)) ?_ ?_⟩
        · refine ⟨none, rfl, s3, ?_⟩
          rw [upd_same, List.length_map]
          rfl
        · rintro i x σ H3 hx ⟨v5, rfl, s4, d4⟩
          obtain ⟨h, y, hh, rfl, hy, ⟨dh, t, g1, g2⟩⟩ := hits_for_walk A2 hx
          have hi : i < ls.length := (List.getElem?_eq_some_iff.mp hh).1
          refine ⟨_, rfl, .inl ⟨rfl, _, SqL.of d4⟩, _, rfl, h, X.CH, dh, _, _, rfl, s4 _ _ g1, X.Hc.cl, X.Hc.n1, hitF_score _ _ t, _, rfl, h, X.CH, dh, _, _, rfl, s4 _ _ g1, X.Hc.cl, X.Hc.n2, hitF_number _ _ t, by show 2 ≤ sizeLine; decide, fun u hu => ?_⟩
          have npu : p ≠ u := ne_of_none d4 hu
          refine ⟨p, u, _, _, rfl, rfl, (upd_ne npu).trans d4, upd_same, ?_, ?_⟩
          · refine small' ?_
            rw [List.length_cons, iv_len]
            have q1 := flat2_len ((foundH g.entries q least).take i)
            rw [List.length_take] at q1
            show _ + 2 ≤ _
            omega
          · refine ⟨_, rfl, Same.over (s4.trans (Same.new hu)) hp, ?_⟩
            rw [upd_same, take_more hy, List.flatMap_append]
            unfold iv
            rw [List.map_append]
            rfl
        · rintro σ H3 ⟨v5, rfl, s4, d4⟩
          rw [List.length_map, A2.len, List.take_length] at d4
          refine ⟨_, rfl, k H3 p ((x1.trans x2).trans (.of s4)) (T2.ext s4) (Nu.ext (x1.trans x2) hp) ?_⟩
          rw [d4, List.map_cons, ints_map]
end
end TM

set_option Elab.async false
set_option linter.all false
set_option maxRecDepth 100000
set_option maxHeartbeats 2000000
namespace TM
open PySem PySem.Spec PyProof.Rows L2
section
variable {P : Program} {w : World} {K : PySem.W.Frag} {mg : Sg → Option Value} {base : Heap}
/-! ### best -/
abbrev nBest : List Sg := ["self", "ask", "hit"]
def spBest (X : Tx K mg base) : Sp := fun vs H Q _ => ∃ (st b : Addr) (g : Ut03.St) (q : Ut03.Ask), vs = [.ref st, .ref b] ∧ EntsOf X.CS X.CE X.CA H st g.entries ∧ Good g ∧ AskAt X.CA H b q ∧ q.source.length ≤ 1000 ∧ LamX.Tabs X.T H ∧ AnsTo X.T H Q (Ut03.step g (.best q)).2
theorem scBest : FnScope nBest ["self", "ask"] (defScope sBest) := ⟨rfl, rfl, rfl, by decide +kernel, rfl, by decide +kernel, by decide +kernel⟩
theorem best_ans (g : Ut03.St) (q : Ut03.Ask) : (Ut03.step g (.best q)).2 = if Ut03.askOk q = false then [-1] else match foundH g.entries q 0 with
    | [] => [-6]
    | x :: _ => Ut03.ints ([x.1, x.2.1, x.2.2.length] ++ x.2.2) := by
  show (if Ut03.askOk q = false then [-1] else match Ut03.found g.entries q 0 with
    | [] => [-6]
    | x :: _ => Ut03.ints ([x.1, x.2.number, x.2.target.length] ++ x.2.target)) = _
  by_cases c : Ut03.askOk q = false
  · rw [if_pos c, if_pos c]
  · rw [if_neg c, if_neg c]
    exact best_hits g.entries q 0
theorem foundH_tr {l : List Ut03.Entry} {q : Ut03.Ask} {least : Nat} {x : Hit} (h : x ∈ foundH l q least) : ∃ e ∈ l, x.2.2 = e.target := by
  have m1 : ∀ (l m : List Hit), x ∈ l.foldl first1 m → x ∈ m ∨ x ∈ l := by
    intro l
    induction l with
    | nil => exact fun m h => .inl h
    | cons y l ih =>
      intro m h
      rcases ih _ h with q | q
      · unfold first1 at q
        split at q
        · exact .inl q
        · rcases List.mem_append.mp q with q0 | q
          · exact .inl q0
          · exact .inr (by rw [List.mem_singleton.mp q]; exact List.mem_cons_self ..)
      · exact .inr (List.mem_cons_of_mem _ q)
  unfold foundH firsts at h
  rcases m1 _ _ h with q | q
  · cases q
  · have q2 := (sortH_perm _).mem_iff.mp q
    unfold enough at q2
    obtain ⟨e, he, rfl⟩ := List.mem_map.mp (List.mem_filter.mp q2).1
    exact ⟨e, he, rfl⟩
theorem ok_best (X : Tx K mg base) {f : Addr} {fd : FuncData} (D : MethAt K X.CS "best" "Store.best" sBest ["self", "ask"] f fd) : FnOk P w K mg base CX0 7 f fd ["self", "ask"] (spBest X) := by
  refine D.F.ok scBest (fun vs H Q E h => ?_) (fun cdv A outer s H vs Q E hr h => ?_)
  · obtain ⟨st, b, g, q, rfl, _⟩ := h
    rfl
  · obtain ⟨st, b, g, q, rfl, hE, hg, hq, hlq, hT, k⟩ := h
    obtain ⟨dx, fs, a, es, h1, h2, h3, h4, h5⟩ := id hE
    have hr3 : Room 3 _ := hr.mono (by decide)
    have hr1 : Room 1 _ := hr.mono (by decide)
    refine ⟨_, pss_cons (ps_if (pt_not (pt_val (pe_call X.gIsAsk hr3 rfl X.isAsk.g X.isAsk.F.kp X.isAsk.b .nil pass0 (pa_cons (pv 1) pa_nil))))
        (pss_one (ps_ret (pe_call X.gRef hr1 rfl X.ref.g X.ref.F.kp X.ref.b .nil pass0 (pa_cons (pe_gint rfl X.R.wrong) pa_nil)))) pss_nil)
      (pss_cons (ps_if (pt_cmpR op_eq (pe_callB call_len_seq (by rfl) X.B.len PySem.boot_len (pa_cons (pe_fld (pv 0) rfl) pa_nil)) pe_int (nomark _))
        (pss_one (ps_ret (pe_call X.gRef hr1 rfl X.ref.g X.ref.F.kp X.ref.b .nil pass0 (pa_cons (pe_gint rfl X.R.empty) pa_nil)))) pss_nil)
      (pss_cons (ps_set (i := 2) scBest.nd rfl (Or.inl rfl) (pe_ix ix_list (pe_call X.gHits hr rfl X.hits.g X.hits.F.kp X.hits.b .nil pass0 (pa_cons (pe_fld (pv 0) rfl) (pa_cons pe_int (pa_cons (pv 1) pa_nil)))) pe_int (fun _ _ => rfl)))
      (pss_one (ps_ret (pe_op op_cat (pe_lst (pa_cons (pe_fld (pv 2) rfl) (pa_cons (pe_fld (pv 2) rfl) pa_nil))) (pe_call X.gTold hr1 rfl X.told.g X.told.F.kp X.told.b .nil pass0 (pa_cons (pe_fld (pv 2) rfl) pa_nil))))))), ?_⟩
    rw [best_ans] at k
    refine ⟨_, rfl, b, q, rfl, hq, hlq, fun H1 s1 => ⟨_, rfl, ?_⟩⟩
    cases c2 : Ut03.askOk q with
    | false =>
      rw [if_pos c2] at k
      exact ⟨_, rfl, ref_ans s1 hT k⟩
    | true =>
      rw [if_neg (fun y => by rw [c2] at y; cases y)] at k
      have x1 : LamX.ExtN H H1 := .of s1
      refine ⟨_, rfl, st, X.CS, dx, _, _, rfl, s1 _ _ h1, X.S.cl, X.S.n1, h2, a, _, rfl, .inl (SqL.of (s1 _ _ h4)), rfl, _, rfl, ?_⟩
      have hel := h5.len
      refine ite2 (fun c => ?_) (fun c => ?_)
      · have c' : g.entries = [] := by
          have z := of_decide_eq_true (vint_eq ▸ c)
          rw [List.length_map] at z
          exact List.eq_nil_of_length_eq_zero (by omega)
        rw [c'] at k
        exact ⟨_, rfl, ref_ans s1 hT k⟩
      · have c' : g.entries ≠ [] := fun z => c (by
          rw [vint_eq, List.length_map, hel, z]
          rfl)
        obtain ⟨x, r, ex⟩ := foundH_zero q c'
        have hxm : x ∈ foundH g.entries q 0 := by rw [ex]; exact List.mem_cons_self ..
        rw [ex] at k
        refine ⟨_, rfl, st, X.CS, dx, _, _, rfl, s1 _ _ h1, X.S.cl, X.S.n1, h2, _, rfl, a, b, 0, es, g.entries, q, rfl, SqL.of (s1 _ _ h4), h5.imp fun e y z => z.same s1, hq.same s1, Nat.le_trans hg.now.len (by decide), fun e he => Nat.le_trans (hg.now.src e he) (by decide), hlq, hg.now.nd, hT.ext s1, fun H2 p ls x2 T2 d2 A2 => ?_⟩
        rw [ex] at A2
        obtain ⟨u, ls', rfl, ⟨dh, t, g1, g2⟩⟩ : ∃ u ls', ls = u :: ls' ∧ HitAt X.CH H2 u x := by
          cases A2 with
          | cons r t => exact ⟨_, _, rfl, r⟩
        refine ⟨p, _, _, _, rfl, rfl, SqL.of d2, atI_nat (j := 0) rfl, ?_⟩
        refine ⟨_, rfl, u, X.CH, dh, _, _, rfl, g1, X.Hc.cl, X.Hc.n1, hitF_score _ _ t, _, rfl, u, X.CH, dh, _, _, rfl, g1, X.Hc.cl, X.Hc.n2, hitF_number _ _ t, by show 2 ≤ sizeLine; decide, fun v hv => ?_⟩
        have s3 : Same H2 (upd H2 v (.lst [V.int (x.1 : Int), V.int (x.2.1 : Int)])) := Same.new hv
        obtain ⟨en, hen, het⟩ := foundH_tr hxm
        have htl : x.2.2.length ≤ 20 := by rw [het]; exact hg.now.tgt en hen
        refine ⟨_, rfl, u, X.CH, dh, _, _, rfl, s3 _ _ g1, X.Hc.cl, X.Hc.n3, hitF_tr _ _ t, t, x.2.2, rfl, s3 _ _ g2, by omega, fun H4 y s4 ny d4 => ?_⟩
        refine ⟨v, y, _, _, rfl, rfl, s4 _ _ upd_same, d4, small' (by rw [iv_len]; show 2 + (x.2.2.length + 1) ≤ _; omega), fun z hz => ?_⟩
        have s5 := (s3.trans s4).trans (Same.new (o := .lst ([V.int (x.1 : Int), V.int (x.2.1 : Int)] ++ iv (x.2.2.length :: x.2.2))) hz)
        refine k _ z ((x1.trans x2).trans (.of s5)) (T2.ext s5) (Nu.ext ((x1.trans x2).trans (.of (s3.trans s4))) hz) ?_
        rw [upd_same, ints_map]
        rfl
/-! ### way -/
abbrev nWayM : List Sg := ["self", "number", "sentence", "entry", "steps"]
def spWayM (X : Tx K mg base) : Sp := fun vs H Q _ => ∃ (st b : Addr) (n : Nat) (g : Ut03.St) (s : List Nat), vs = [.ref st, .int (n : Int), .ref b] ∧ EntsOf X.CS X.CE X.CA H st g.entries ∧ Good g ∧ SqL K H b (iv s) ∧ H b = some (.lst (iv s)) ∧ s.length ≤ 1000 ∧ LamX.Tabs X.T H ∧ AnsTo X.T H Q (Ut03.step g (.way n s)).2
theorem scWayM : FnScope nWayM ["self", "number", "sentence"] (defScope sWayM) := ⟨rfl, rfl, rfl, by decide +kernel, rfl, by decide +kernel, by decide +kernel⟩
theorem way_len (a b : List Nat) : (Ut03.way a b).length ≤ a.length + b.length := by
  have gen : ∀ (f i j : Nat), i ≤ a.length → j ≤ b.length → (Ut03.wayFrom (Ut03.table a b) a b f i j).length ≤ i + j := by
    intro f
    induction f with
    | zero => exact fun i j _ _ => Nat.zero_le _
    | succ f ih =>
      intro i j hi hj
      by_cases c : i = 0 ∧ j = 0
      · obtain ⟨rfl, rfl⟩ := c
        rw [way_done]
        exact Nat.zero_le _
      · have hl := step_lt a b c
        rw [wayFrom_step a b hi hj c, List.length_append, List.length_singleton]
        have h2 := ih _ _ (Nat.le_trans (nextI_le (stepAt a b i j) i) hi) (Nat.le_trans (nextJ_le (stepAt a b i j) j) hj)
        omega
  exact gen _ _ _ (Nat.le_refl _) (Nat.le_refl _)
theorem ok_wayM (X : Tx K mg base) {f : Addr} {fd : FuncData} (D : MethAt K X.CS "way" "Store.way" sWayM ["self", "number", "sentence"] f fd) : FnOk P w K mg base CX0 4 f fd ["self", "number", "sentence"] (spWayM X) := by
  refine D.F.ok scWayM (fun vs H Q E h => ?_) (fun cdv A outer s H vs Q E hr h => ?_)
  · obtain ⟨st, b, n, g, z, rfl, _⟩ := h
    rfl
  · obtain ⟨st, b, n, g, z, rfl, hE, hg, hz, hb, hlz, hT, k⟩ := h
    obtain ⟨dx, fs, a, es, h1, h2, h3, h4, h5⟩ := id hE
    have hr1 : Room 1 _ := hr.mono (by decide)
    refine ⟨_, pss_cons (ps_set (i := 3) scWayM.nd rfl (Or.inl rfl) (pe_meth (pv 0) X.S.cl X.ew.m X.gEw hr1 X.ew.b .nil pass0 (pa_cons (pv 1) pa_nil)))
      (pss_cons (ps_if (pt_cmpR op_isN (pv 3) pe_non (nomark _)) (pss_one (ps_ret (pe_call X.gRef hr1 rfl X.ref.g X.ref.F.kp X.ref.b .nil pass0 (pa_cons (pe_gint rfl X.R.none) pa_nil)))) pss_nil)
      (pss_cons (ps_if (pt_not (pt_val (pe_call X.gSent hr1 rfl X.sent.g X.sent.F.kp X.sent.b .nil pass0 (pa_cons (pv 2) pa_nil)))) (pss_one (ps_ret (pe_call X.gRef hr1 rfl X.ref.g X.ref.F.kp X.ref.b .nil pass0 (pa_cons (pe_gint rfl X.R.wrong) pa_nil)))) pss_nil)
      (pss_cons (ps_set (i := 4) scWayM.nd rfl (Or.inl rfl) (pe_call X.gWay hr rfl X.way.g X.way.F.kp X.way.b .nil pass0 (pa_cons (pe_fld (pe_fld (pv 3) rfl) rfl) (pa_cons (pv 2) pa_nil))))
      (pss_one (ps_ret (pe_op op_cat (pe_lst (pa_cons (pe_call X.gDist hr rfl X.dist.g X.dist.F.kp X.dist.b .nil pass0 (pa_cons (pe_fld (pe_fld (pv 3) rfl) rfl) (pa_cons (pv 2) pa_nil))) (pa_cons (pe_callB call_len_seq (by rfl) X.B.len PySem.boot_len (pa_cons (pv 4) pa_nil)) pa_nil))) (pv 4))))))), ?_⟩
    have kk : AnsTo X.T H Q (match g.entries.find? fun e => e.number == n with
      | none => [-2]
      | some e => if Ut03.sentOk z = false then [-1] else Ut03.ints ([Ut03.price (Ut03.way e.source z), (Ut03.way e.source z).length] ++ Ut03.way e.source z)) := k
    refine ⟨_, rfl, st, dx, fs, rfl, h1, h3, _, rfl, st, n, g.entries, rfl, hE, fun hn => ?_, fun e ea hs he => ?_⟩
    · rw [hn] at kk
      refine ⟨_, rfl, rfl, _, rfl, ?_⟩
      refine ifT rfl ?_
      exact ⟨_, rfl, ref_ans (Same.refl H) hT kk⟩
    · rw [hs] at kk
      dsimp only at kk
      refine ⟨_, rfl, rfl, _, rfl, ?_⟩
      refine ifF rfl ?_
      refine ⟨_, rfl, b, z, rfl, hz, hlz, fun H1 s1 => ⟨_, rfl, ?_⟩⟩
      cases c : Ut03.sentOk z with
      | false =>
        rw [if_pos c] at kk
        exact ⟨_, rfl, ref_ans s1 hT kk⟩
      | true =>
        rw [if_neg (fun y => by rw [c] at y; cases y), price_way] at kk
        have hem := List.mem_of_find?_eq_some hs
        have hsl := hg.now.src e hem
        have hzl := sentOk_len c
        obtain ⟨de, qa, t, e1, ⟨dq, sp, q1, q2⟩, e3⟩ := id he
        refine ⟨_, rfl, ea, X.CE, de, _, _, rfl, s1 _ _ e1, X.E.cl, X.E.n2, entF_ask _ qa t, qa, X.CA, dq, _, _, rfl, s1 _ _ q1, X.A.cl, X.A.n4, askF_sentence _ sp, _, rfl, sp, b, e.source, z, rfl, SqL.of (s1 _ _ q2), s1.seq hz, by omega, hlz, fun H2 r s2 nr d2 => ?_⟩
        have s12 := s1.trans s2
        refine ⟨_, rfl, ea, X.CE, de, _, _, rfl, s12 _ _ e1, X.E.cl, X.E.n2, entF_ask _ qa t, qa, X.CA, dq, _, _, rfl, s12 _ _ q1, X.A.cl, X.A.n4, askF_sentence _ sp, _, rfl, sp, b, e.source, z, rfl, SqL.of (s12 _ _ q2), s12.seq hz, by omega, hlz, fun H3 s3 => ?_⟩
        have d3 := s3 _ _ d2
        refine ⟨_, rfl, r, _, rfl, .inl (SqL.of d3), by show 2 ≤ sizeLine; decide, fun v hv => ?_⟩
        have s4 : Same H3 (upd H3 v (.lst [V.int (Ut03.distance e.source z : Nat), V.int (((iv (Ut03.way e.source z)).length : Nat) : Int)])) := Same.new hv
        have hwl := way_len e.source z
        refine ⟨_, rfl, v, r, _, _, rfl, rfl, upd_same, s4 _ _ d3, small' (by rw [iv_len]; show 2 + _ ≤ _; omega), fun y hy => ?_⟩
        have s14 := (s12.trans s3).trans s4
        refine kk _ y (.of (s14.trans (Same.new hy))) (hT.ext (s14.trans (Same.new hy))) (Nu.ext (.of s14) hy) ?_
        rw [upd_same, iv_len, ints_map]
        unfold iv
        rw [List.map_append]
        rfl
end
end TM

set_option Elab.async false
set_option linter.all false
set_option maxRecDepth 100000
set_option maxHeartbeats 2000000
namespace TM
open PySem PySem.Spec PyProof.Rows L2
theorem in_iv : ∀ (l : List Nat) (x : Nat), inV (.int (x : Int)) (iv l) = l.contains x
  | [], x => rfl
  | y :: l, x => by
    have ih := in_iv l x
    unfold inV iv at ih ⊢
    rw [List.map_cons, List.any_cons, ih, List.contains_cons]
    refine congrArg (· || l.contains x) ?_
    show ((y : Int) == (x : Int)) = (x == y)
    by_cases h : x = y
    · subst h
      simp
    · rw [beq_eq_false_iff_ne.mpr h, beq_eq_false_iff_ne.mpr (by omega)]
theorem flat_iv (l : List Nat) : (iv l).all flatV = true := by
  unfold iv
  rw [List.all_map]
  exact List.all_eq_true.mpr fun x _ => rfl
theorem count_iv (l : List Nat) (x : Nat) : (l.map fun (n : Nat) => (n : Int)).count (x : Int) = (l.filter fun y => y == x).length := by
  rw [List.count_eq_length_filter, List.filter_map, List.length_map]
  refine congrArg (fun f => (l.filter f).length) ?_
  funext y
  show ((y : Int) == (x : Int)) = (y == x)
  by_cases h : y = x
  · subst h
    simp
  · rw [beq_eq_false_iff_ne.mpr h, beq_eq_false_iff_ne.mpr (by omega)]
def hasW (x : Nat) (e : Ut03.Entry) : Bool := e.source.contains x || e.target.contains x
def row3 (x : Nat) (e : Ut03.Entry) : List Nat := [e.number, (e.source.filter fun y => y == x).length, (e.target.filter fun y => y == x).length]
theorem flat3_len (x : Nat) : ∀ l : List Ut03.Entry, (l.flatMap (row3 x)).length = 3 * l.length
  | [] => rfl
  | e :: l => by
    rw [List.flatMap_cons, List.length_append, flat3_len x l, List.length_cons]
    show 3 + 3 * l.length = 3 * (l.length + 1)
    omega
theorem ents_walk {CE CA : Addr} {H : Hp} {es : List Addr} {l : List Ut03.Entry} {i : Nat} {x : V} (A : All2 (EntAt CE CA H) es l) (h : (es.map V.ref)[i]? = some x) : ∃ a y, es[i]? = some a ∧ x = V.ref a ∧ l[i]? = some y ∧ EntAt CE CA H a y := by
  rw [List.getElem?_map] at h
  cases z : es[i]? with
  | none =>
    rw [z] at h
    cases h
  | some a =>
    rw [z] at h
    obtain ⟨y, hy, r⟩ := A.get z
    exact ⟨a, y, rfl, (Option.some.inj h).symm, hy, r⟩
section
variable {P : Program} {w : World} {K : PySem.W.Frag} {mg : Sg → Option Value} {base : Heap}
/-! ### with_word -/
abbrev nWith : List Sg := ["self", "word", "having", "answer", "entry"]
def spWith (X : Tx K mg base) : Sp := fun vs H Q _ => ∃ (st : Addr) (x : Nat) (g : Ut03.St), vs = [.ref st, .int (x : Int)] ∧ EntsOf X.CS X.CE X.CA H st g.entries ∧ Good g ∧ LamX.Tabs X.T H ∧ AnsTo X.T H Q (Ut03.step g (.with_ x)).2
theorem scWith : FnScope nWith ["self", "word"] (defScope sWith) := ⟨rfl, rfl, rfl, by decide +kernel, rfl, by decide +kernel, by decide +kernel⟩
def ttWith (K : PySem.W.Frag) : TT := tOr (tTest (tOp (rIn K false) (tVar 1) (tFld K (tFld K (tVar 4) "ask") "sentence"))) (tTest (tOp (rIn K false) (tVar 1) (tFld K (tVar 4) "translation")))
theorem ok_with (X : Tx K mg base) {f : Addr} {fd : FuncData} (D : MethAt K X.CS "with_word" "Store.with_word" sWith ["self", "word"] f fd) : FnOk P w K mg base CX0 1 f fd ["self", "word"] (spWith X) := by
  refine D.F.ok scWith (fun vs H Q E h => ?_) (fun cdv A outer s H vs Q E hr h => ?_)
  · obtain ⟨st, x, g, rfl, _⟩ := h
    rfl
  · obtain ⟨st, x, g, rfl, hE, hg, hT, k⟩ := h
    obtain ⟨dx, fs, a, es, h1, h2, h3, h4, h5⟩ := id hE
    refine ⟨_, pss_cons (ps_setLc (i := 2) (own := [("entry", 4)]) (g := gName 4) (tt := ttWith K) rfl scWith.nd rfl rfl (sw_true rfl rfl rfl (by decide +kernel)) (pi_list (pe_fld (pv 0) rfl)) (blkOk_by (own := [("entry", 4)]) (N := nWith) (sc := defScope sWith) (by decide +kernel))
        (fun _ _ _ _ _ => pg_name (i := 4) scWith.nd rfl (Or.inl rfl)) (fun _ _ _ _ _ => pts_one (by exact PW.pt (pw_or (pt_cmpR op_in_seq (pv 1) (pe_fld (pe_fld (pv 4) rfl) rfl) (by rfl)) (pw_or1 (pt_cmpR op_in_seq (pv 1) (pe_fld (pv 4) rfl) (by rfl))))))
        (fun _ _ _ _ _ => pv 4))
      (pss_cons (ps_set (i := 3) scWith.nd rfl (Or.inl rfl) (pe_lst (pa_cons (pe_callB call_len_seq (by rfl) X.B.len PySem.boot_len (pa_cons (pv 2) pa_nil)) pa_nil)))
      (pss_cons (ps_for PassesOwn.never rfl (pi_list (pv 2)) (pg_name (i := 4) scWith.nd rfl (Or.inl rfl))
        (pss_one (ps_expr (pe_bm PySem.F.plainAttrs_list PySem.F.slot_list_extend PySem.F.type_list_extend mt_extend (pv 3) (pa_cons (pe_lst (pa_cons (pe_fld (pv 4) rfl)
          (pa_cons (pe_bm PySem.F.plainAttrs_list PySem.F.slot_list_count PySem.F.type_list_count mt_lcount (pe_fld (pe_fld (pv 4) rfl) rfl) (pa_cons (pv 1) pa_nil)) (pa_cons (pe_bm PySem.F.plainAttrs_list PySem.F.slot_list_count PySem.F.type_list_count mt_lcount (pe_fld (pv 4) rfl) (pa_cons (pv 1) pa_nil)) pa_nil)))) pa_nil)))))
      (pss_one (ps_ret (pv 3))))), ?_⟩
    have kk : AnsTo X.T H Q (((g.entries.filter (hasW x)).length : Int) :: Ut03.ints ((g.entries.filter (hasW x)).flatMap (row3 x))) := k
    refine ⟨_, rfl, st, X.CS, dx, _, _, rfl, h1, X.S.cl, X.S.n1, h2, a, rfl, ⟨_, SqL.of h4⟩, fun D1 hD => lc_list (K := K) (a := a) (xs := es.map V.ref) (fun i H1 => ∃ ns : List Addr, Same H H1 ∧ H1 D1 = some (.lst (ns.map V.ref)) ∧ ns.length ≤ i ∧ All2 (EntAt X.CE X.CA H) ns ((g.entries.take i).filter (hasW x))) ?_ (fun i H1 _ ⟨_, s1, _⟩ => s1.seq (SqL.of h4)) ?_ ?_⟩
    · exact ⟨[], Same.new hD, upd_same, Nat.le_refl _, .nil⟩
    · rintro i v H1 hx ⟨ns, s1, d1, l1, A1⟩
      obtain ⟨ea, en, hea, rfl, hen, hent⟩ := ents_walk h5 hx
      have hi : i < es.length := (List.getElem?_eq_some_iff.mp hea).1
      have hgl := hg.now.len
      have hel := h5.len
      obtain ⟨de, qa, t, e1, ⟨dq, sp, q1, q2⟩, e3⟩ := id hent
      have ef := take_more hen
      have keep : hasW x en = true → Same H (upd H1 D1 (.lst (ns.map V.ref ++ [V.ref ea]))) ∧ upd H1 D1 (.lst (ns.map V.ref ++ [V.ref ea])) D1 = some (.lst ((ns ++ [ea]).map V.ref)) ∧ (ns ++ [ea]).length ≤ i + 1 ∧ All2 (EntAt X.CE X.CA H) (ns ++ [ea]) ((g.entries.take (i + 1)).filter (hasW x)) := fun c => by
        refine ⟨Same.over s1 hD, ?_, ?_, ?_⟩
        · rw [upd_same, List.map_append]
          rfl
        · rw [List.length_append, List.length_singleton]
          omega
        · rw [ef, List.filter_append, List.filter_cons_of_pos c, List.filter_nil]
          exact All2.snoc hent A1
      refine ⟨rfl, _, rfl, _, rfl, ea, X.CE, de, _, _, rfl, s1 _ _ e1, X.E.cl, X.E.n2, entF_ask _ qa t, qa, X.CA, dq, _, _, rfl, s1 _ _ q1, X.A.cl, X.A.n4, askF_sentence _ sp, sp, _, rfl, .inl (SqL.of (s1 _ _ q2)), rfl, flat_iv _, _, rfl, ?_⟩
      rw [if_neg Bool.false_ne_true, in_iv]
      refine ite2 (fun c => ?_) (fun c => ?_)
      · have c' : hasW x en = true := by
          unfold hasW
          rw [show en.source.contains x = true from c]
          rfl
        exact ⟨_, rfl, _, d1, small (by rw [List.length_map]; omega), ns ++ [ea], keep c'⟩
      · have c1 : en.source.contains x = false := by
          have z : ¬ en.source.contains x = true := c
          simpa using z
        refine ⟨_, rfl, _, rfl, ea, X.CE, de, _, _, rfl, s1 _ _ e1, X.E.cl, X.E.n3, entF_tr _ qa t, t, _, rfl, .inl (SqL.of (s1 _ _ e3)), rfl, flat_iv _, _, rfl, ?_⟩
        rw [if_neg Bool.false_ne_true, in_iv]
        refine ite2 (fun c => ?_) (fun c => ?_)
        · have c' : hasW x en = true := by
            unfold hasW
            rw [c1, c]
            rfl
          exact ⟨_, rfl, _, d1, small (by rw [List.length_map]; omega), ns ++ [ea], keep c'⟩
        · have c2 : en.target.contains x = false := by simpa using c
          refine ⟨ns, s1, d1, by omega, ?_⟩
          rw [ef, List.filter_append, List.filter_cons_of_neg (by unfold hasW; rw [c1, c2]; simp), List.filter_nil, List.append_nil]
          exact A1
    · rintro H1 ⟨ns, s1, d1, l1, A1⟩
      rw [List.length_map, h5.len, List.take_length] at A1
      have hgl := hg.now.len
      have hfl := List.length_filter_le (hasW x) g.entries
      have hnl := A1.len
      refine ⟨_, rfl, D1, _, rfl, .inl (SqL.of d1), by show 1 ≤ sizeLine; decide, fun p hp => ?_⟩
      have s2 : Same H1 (upd H1 p (.lst [V.int (((ns.map V.ref).length : Nat) : Int)])) := Same.new hp
      refine ⟨_, rfl, D1, rfl, ⟨_, SqL.of (s2 _ _ d1)⟩, for_list (K := K) (a := D1) (xs := ns.map V.ref) (fun i σ H3 => ∃ v4 : Option V, σ = [some (.ref st), some (.int (x : Int)), some (.ref D1), some (.ref p), v4] ∧ Same H1 H3 ∧
        H3 p = some (.lst (V.int ((ns.length : Nat) : Int) :: iv (((g.entries.filter (hasW x)).take i).flatMap (row3 x))))) ?_ (fun i σ H3 _ ⟨_, _, s4, _⟩ => s4.seq (SqL.of d1)) ?_ ?_⟩
      · refine ⟨none, rfl, s2, ?_⟩
        rw [upd_same, List.length_map]
        rfl
      · rintro i v σ H3 hx ⟨v4, rfl, s4, d4⟩
        obtain ⟨ea, en, hea, rfl, hen, ⟨de, qa, t, e1, ⟨dq, sp, q1, q2⟩, e3⟩⟩ := ents_walk A1 hx
        have hi : i < ns.length := (List.getElem?_eq_some_iff.mp hea).1
        have s14 := s1.trans s4
        have q2' := s14 _ _ q2
        have e3' := s14 _ _ e3
        rw [iv_ints] at q2' e3'
        refine ⟨_, rfl, .inl ⟨rfl, _, SqL.of d4⟩, _, rfl, ea, X.CE, de, _, _, rfl, s14 _ _ e1, X.E.cl, X.E.n1, entF_number _ qa t, ?_⟩
        refine ⟨_, rfl, ea, X.CE, de, _, _, rfl, s14 _ _ e1, X.E.cl, X.E.n2, entF_ask _ qa t, qa, X.CA, dq, _, _, rfl, s14 _ _ q1, X.A.cl, X.A.n4, askF_sentence _ sp, .inl ⟨rfl, _, SqL.of q2'⟩, _, rfl, sp, _, _, rfl, rfl, SqL.of q2', ?_⟩
        refine ⟨_, rfl, ea, X.CE, de, _, _, rfl, s14 _ _ e1, X.E.cl, X.E.n3, entF_tr _ qa t, .inl ⟨rfl, _, SqL.of e3'⟩, _, rfl, t, _, _, rfl, rfl, SqL.of e3', by show 3 ≤ sizeLine; decide, fun u hu => ?_⟩
        have npu : p ≠ u := ne_of_none d4 hu
        refine ⟨p, u, _, _, rfl, rfl, (upd_ne npu).trans d4, upd_same, ?_, ?_⟩
        · refine small' ?_
          rw [List.length_cons, iv_len, flat3_len, List.length_take]
          show _ + 3 ≤ _
          omega
        · refine ⟨_, rfl, Same.over (s4.trans (Same.new hu)) hp, ?_⟩
          rw [upd_same, take_more hen, List.flatMap_append, count_iv, count_iv]
          unfold iv
          rw [List.map_append]
          rfl
      · rintro σ H3 ⟨v4, rfl, s4, d4⟩
        rw [List.length_map, hnl, List.take_length] at d4
        refine ⟨_, rfl, kk H3 p (.of (s1.trans s4)) (hT.ext (s1.trans s4)) (Nu.ext (.of s1) hp) ?_⟩
        rw [d4, List.map_cons, ints_map]
end
end TM

set_option Elab.async false
set_option linter.all false
set_option maxRecDepth 100000
set_option maxHeartbeats 2000000
namespace TM
open PySem PySem.Spec PyProof.Rows L2
section
variable {K : PySem.W.Frag} {h : Heap} {mg : Sg → Option Value}
/-- how a def without defaults binds -/
abbrev BindOk (x qual : Sg) (st : Stmt) (ps : List Sg) : Prop := ∀ (kV doc pm : Value) (an : Option Addr) (cdv ct : Value) (us : List Value), us.length = ps.length → bindArgs (PySem.W.fnOf x qual (defArgs st) (defBody st) (defScope st) .none kV doc pm an cdv ct) ⟨us, []⟩ = pure (ps.zip us)
theorem mkDef {name : Sg} {st : Stmt} {ps : List Sg} {f : Addr} {od an : Option Addr} {sl : Array (Option Value)} {oc kV dc pm cd ct : Value} (hb : BindOk name name st ps) (X : K.In h) (G : h.Ns mainGlobals mg)
    (a : PySem.W.nsIn K mainGlobals name = some (some (.ref f))) (l : K.lookup f = some ⟨oc, od, .func (PySem.W.fnOf name name (defArgs st) (defBody st) (defScope st) .none kV dc pm an cd ct), sl⟩) (c : PySem.W.codeIn K cd name = true) (k : PySem.W.keepIn K (.ref f) = true) :
    ∃ f fd, DefAt K mg name st ps f fd := by
  have F := fun_mk (st := st) l c k
  exact ⟨f, _, F, F.binds hb, PySem.W.mg_of X G a⟩
theorem mkInt {name : Sg} {i : Int} {t : Tok} (X : K.In h) (G : h.Ns mainGlobals mg) (a : PySem.W.nsIn K mainGlobals name = some (some (.int i t))) : ∃ t, mg name = some (.int i t) := ⟨t, PySem.W.mg_of X G a⟩
end
end TM

set_option Elab.async false
set_option linter.all false
set_option maxRecDepth 100000
set_option maxHeartbeats 2000000
namespace TM
open PySem PySem.Spec PyProof.Rows L2
/-! ### The memory in the heap, apart from the list that is told and the list of the earlier ones -/
def hid (tl b : Addr) (H : Hp) : Hp := fun c => if c = tl ∨ c = b then none else H c
theorem hid_ne {tl b c : Addr} {H : Hp} (h1 : c ≠ tl) (h2 : c ≠ b) : hid tl b H c = H c := if_neg (fun z => z.elim h1 h2)
theorem of_hid {tl b c : Addr} {H : Hp} {o : HO} (h : hid tl b H c = some o) : c ≠ tl ∧ c ≠ b ∧ H c = some o := by
  unfold hid at h
  by_cases z : c = tl ∨ c = b
  · rw [if_pos z] at h
    cases h
  · rw [if_neg z] at h
    exact ⟨fun y => z (.inl y), fun y => z (.inr y), h⟩
theorem hid_same (tl b : Addr) (H : Hp) : Same (hid tl b H) H := fun c o e => (of_hid e).2.2
theorem hid_upd (tl b : Addr) (H : Hp) (o : HO) : hid tl b (upd H tl o) = hid tl b H := by
  funext c
  by_cases z : c = tl
  · unfold hid
    rw [if_pos (.inl z), if_pos (.inl z)]
  · unfold hid
    rw [upd_ne z]
/-- the kinds of objects that a memory is made of -/
def Mo (o : HO) : Prop := (∃ xs, o = .lst xs) ∨ (∃ C d n q t, o = .ins C d (entF n q t)) ∨ ∃ C d q p, o = .ins C d (askF q p)
theorem Mo.lst {xs : List V} : Mo (.lst xs) := .inl ⟨_, rfl⟩
theorem Mo.ent {C d q t : Addr} {n : Nat} : Mo (.ins C d (entF n q t)) := .inr (.inl ⟨_, _, _, _, _, rfl⟩)
theorem Mo.ask {C d p : Addr} {q : Ut03.Ask} : Mo (.ins C d (askF q p)) := .inr (.inr ⟨_, _, _, _, rfl⟩)
theorem Mo.tbl {o : HO} (h : Mo o) : ∀ ps, o ≠ .tbl ps := by
  rintro ps rfl
  rcases h with ⟨_, z⟩ | ⟨_, _, _, _, _, z⟩ | ⟨_, _, _, _, z⟩ <;> cases z
def namesF (fs : List (Sg × V)) : List Sg := fs.map Prod.fst
theorem Mo.ne {o : HO} {C d : Addr} {fs : List (Sg × V)} {ns : List Sg} (h : Mo o) (hn : namesF fs = ns) (h1 : ns ≠ (["number", "ask", "translation"] : List Sg)) (h2 : ns ≠ (["ahead", "behind", "client", "sentence"] : List Sg)) : o ≠ .ins C d fs := by
  rintro rfl
  rcases h with ⟨_, z⟩ | ⟨_, _, _, _, _, z⟩ | ⟨_, _, _, _, z⟩
  · cases z
  · injection z with _ _ z
    exact h1 (by rw [← hn, z]; rfl)
  · injection z with _ _ z
    exact h2 (by rw [← hn, z]; rfl)
def stF (a b : Addr) (n : Nat) : List (Sg × V) := [("entries", .ref a), ("earlier", .ref b), ("next_number", .int (n : Int))]
theorem stF_ents (a b : Addr) (n : Nat) : (stF a b n).lookup ("entries" : Sg) = some (.ref a) := lk_here
theorem stF_earl (a b : Addr) (n : Nat) : (stF a b n).lookup ("earlier" : Sg) = some (.ref b) := (lk_past (by decide +kernel)).trans lk_here
theorem stF_next (a b : Addr) (n : Nat) : (stF a b n).lookup ("next_number" : Sg) = some (.int (n : Int)) := (lk_past (by decide +kernel)).trans ((lk_past (by decide +kernel)).trans lk_here)
theorem stF_no (a b : Addr) (n : Nat) {m : Sg} (h1 : (m == ("entries" : Sg)) = false) (h2 : (m == ("earlier" : Sg)) = false) (h3 : (m == ("next_number" : Sg)) = false) : (stF a b n).lookup m = none := (lk_past h1).trans ((lk_past h2).trans ((lk_past h3).trans rfl))
theorem stF_put (a b c : Addr) (n : Nat) : putF "entries" (.ref c) (stF a b n) = stF c b n := put_here
theorem stF_inc (a b : Addr) (n : Nat) (z : Int) (m : Nat) (h : z = (m : Int)) : putF "next_number" (.int z) (stF a b n) = stF a b m := by
  rw [h]
  exact (put_past (by decide +kernel)).trans (congrArg _ ((put_past (by decide +kernel)).trans (congrArg _ put_here)))
theorem Mo.st {o : HO} {C d a b : Addr} {n : Nat} (h : Mo o) : o ≠ .ins C d (stF a b n) := h.ne (ns := ["entries", "earlier", "next_number"]) rfl (by decide +kernel) (by decide +kernel)
theorem Mo.rd {o : HO} {C d a : Addr} {n : Nat} (h : Mo o) : o ≠ .ins C d (rdF a n) := h.ne (ns := ["numbers", "place"]) rfl (by decide +kernel) (by decide +kernel)
theorem st_rd {C d a b C' d' a' : Addr} {n n' : Nat} : HO.ins C d (stF a b n) ≠ .ins C' d' (rdF a' n') := fun z => by
  injection z with _ _ z
  cases congrArg List.length z
/-- what the memory is made of stands -/
def Mv (H H' : Hp) : Prop := ∀ c o, H c = some o → Mo o → H' c = some o
theorem Mv.same {H H' : Hp} (s : Same H H') : Mv H H' := fun c o e _ => s c o e
theorem Mv.trans {H H1 H2 : Hp} (a : Mv H H1) (b : Mv H1 H2) : Mv H H2 := fun c o e m => b c o (a c o e m) m
theorem AskAt.mv {C : Addr} {H H' : Hp} {a : Addr} {q : Ut03.Ask} (x : Mv H H') (h : AskAt C H a q) : AskAt C H' a q := by
  obtain ⟨dx, p, h1, h2⟩ := h
  exact ⟨dx, p, x _ _ h1 .ask, x _ _ h2 .lst⟩
theorem EntAt.mv {CE CA : Addr} {H H' : Hp} {a : Addr} {e : Ut03.Entry} (x : Mv H H') (h : EntAt CE CA H a e) : EntAt CE CA H' a e := by
  obtain ⟨dx, qa, t, h1, h2, h3⟩ := h
  exact ⟨dx, qa, t, x _ _ h1 .ent, h2.mv x, x _ _ h3 .lst⟩
/-- a list of entries -/
def LiAt (CE CA : Addr) (H : Hp) (a : Addr) (l : List Ut03.Entry) : Prop := ∃ es : List Addr, H a = some (.lst (es.map V.ref)) ∧ All2 (EntAt CE CA H) es l
theorem LiAt.mv {CE CA : Addr} {H H' : Hp} {a : Addr} {l : List Ut03.Entry} (x : Mv H H') (h : LiAt CE CA H a l) : LiAt CE CA H' a l := by
  obtain ⟨es, h1, h2⟩ := h
  exact ⟨es, x _ _ h1 .lst, h2.imp fun e y z => z.mv x⟩
/-- all but the store, the list of the earlier ones and the tables stands -/
def FrN (st b : Addr) (H H' : Hp) : Prop := ∀ c o, H c = some o → c ≠ st → c ≠ b → (∀ ps, o ≠ .tbl ps) → H' c = some o
theorem FrN.ext {st b : Addr} {H H' : Hp} (x : LamX.ExtN H H') : FrN st b H H' := fun c o e _ _ n => x c o e n
theorem FrN.refl {st b : Addr} {H : Hp} : FrN st b H H := fun _ _ e _ _ _ => e
theorem FrN.trans {st b : Addr} {H H1 H2 : Hp} (x : FrN st b H H1) (y : FrN st b H1 H2) : FrN st b H H2 := fun c o e n m t => y c o (x c o e n m t) n m t
theorem FrN.st {st b : Addr} {H : Hp} {o : HO} : FrN st b H (upd H st o) := fun c u e n _ _ => (upd_ne n).trans e
theorem FrN.earl {st b : Addr} {H : Hp} {o : HO} : FrN st b H (upd H b o) := fun c u e _ n _ => (upd_ne n).trans e
theorem FrN.same {st b : Addr} {H H' : Hp} (x : Same H H') : FrN st b H H' := fun c o e _ _ _ => x c o e
theorem FrN.mv {st b tl C dx a b' : Addr} {n : Nat} {H H' : Hp} (x : FrN st b H H') (hs : H st = some (.ins C dx (stF a b' n))) : Mv (hid tl b H) (hid tl b H') := fun c o e m => by
  obtain ⟨h1, h2, h3⟩ := of_hid e
  rw [hid_ne h1 h2]
  exact x c o h3 (ne_of h3 hs m.st) h2 m.tbl
/-- tables and code objects stand -/
def Tk (H H' : Hp) : Prop := ∀ c o, H c = some o → ((∃ ps, o = .tbl ps) ∨ ∃ f, o = .ext f) → H' c = some o
theorem Tk.same {H H' : Hp} (s : Same H H') : Tk H H' := fun c o e _ => s c o e
theorem Tk.trans {H H1 H2 : Hp} (a : Tk H H1) (b : Tk H1 H2) : Tk H H2 := fun c o e m => b c o (a c o e m) m
theorem Tk.lst {H : Hp} {p : Addr} {xs : List V} {o : HO} (h : H p = some (.lst xs)) : Tk H (upd H p o) := fun c u e m => by
  rw [upd_ne (ne_of e h (by rintro rfl; rcases m with ⟨_, z⟩ | ⟨_, z⟩ <;> cases z))]
  exact e
theorem Tk.ins {H : Hp} {p C d : Addr} {fs : List (Sg × V)} {o : HO} (h : H p = some (.ins C d fs)) : Tk H (upd H p o) := fun c u e m => by
  rw [upd_ne (ne_of e h (by rintro rfl; rcases m with ⟨_, z⟩ | ⟨_, z⟩ <;> cases z))]
  exact e
theorem Tk.but {H H' : Hp} {p C d : Addr} {fs : List (Sg × V)} (h : H p = some (.ins C d fs)) (x : But p H H') : Tk H H' := fun c u e m =>
  x c u e (ne_of e h (by rintro rfl; rcases m with ⟨_, z⟩ | ⟨_, z⟩ <;> cases z))
theorem Tk.tabs {T : List (Addr × Sg)} {H H' : Hp} (x : Tk H H') (t : LamX.Tabs T H) : LamX.Tabs T H' := fun p hp => by
  obtain ⟨ps, h1, h2, h3⟩ := t p hp
  refine ⟨ps, x _ _ h1 (.inl ⟨_, rfl⟩), h2, fun pos cv hc => ?_⟩
  obtain ⟨co, u1, u2⟩ := h3 pos cv hc
  exact ⟨co, u1, x _ _ u2 (.inr ⟨_, rfl⟩)⟩
section
variable {P : Program} {w : World} {K : PySem.W.Frag} {mg : Sg → Option Value} {base : Heap}
def MemB (X : Tx K mg base) (tl b : Addr) (H : Hp) (st : Addr) (g : Ut03.St) : Prop := ∃ (dx a : Addr) (xs : List Addr), H st = some (.ins X.CS dx (stF a b g.given)) ∧ H b = some (.lst (xs.map V.ref)) ∧ b ≠ tl ∧ st ≠ tl ∧
  LiAt X.CE X.CA (hid tl b H) a g.entries ∧ All2 (LiAt X.CE X.CA (hid tl b H)) xs g.old.reverse
theorem MemB.ents {X : Tx K mg base} {tl b st : Addr} {H : Hp} {g : Ut03.St} (h : MemB X tl b H st g) : EntsOf X.CS X.CE X.CA H st g.entries := by
  obtain ⟨dx, a, xs, h1, h2, h3, h4, ⟨es, h5, h6⟩, h7⟩ := h
  exact ⟨dx, _, a, es, h1, stF_ents _ _ _, stF_no _ _ _ (by decide +kernel) (by decide +kernel) (by decide +kernel), (of_hid h5).2.2, h6.imp fun e y z => z.same (hid_same tl b H)⟩
theorem MemB.mv {X : Tx K mg base} {tl b st : Addr} {H H' : Hp} {g : Ut03.St} (x : ∀ c o, H c = some o → c ≠ tl → (Mo o ∨ ∃ d a n, o = .ins X.CS d (stF a b n)) → H' c = some o) (h : MemB X tl b H st g) : MemB X tl b H' st g := by
  obtain ⟨dx, a, xs, h1, h2, h3, h4, h5, h7⟩ := h
  have mv : Mv (hid tl b H) (hid tl b H') := fun c o e m => by
    obtain ⟨g1, g2, g3⟩ := of_hid e
    rw [hid_ne g1 g2]
    exact x c o g3 g1 (.inl m)
  exact ⟨dx, a, xs, x _ _ h1 h4 (.inr ⟨_, _, _, rfl⟩), x _ _ h2 h3 (.inl .lst), h3, h4, h5.mv mv, h7.imp fun e y z => z.mv mv⟩
theorem MemB.ext {X : Tx K mg base} {tl b st : Addr} {H H' : Hp} {g : Ut03.St} (x : LamX.ExtN H H') (h : MemB X tl b H st g) : MemB X tl b H' st g :=
  h.mv fun c o e _ m => x c o e (m.elim (fun m => m.tbl) fun ⟨_, _, _, z⟩ ps y => by rw [z] at y; cases y)
theorem MemB.but {X : Tx K mg base} {tl b st r a C d : Addr} {n : Nat} {H H' : Hp} {g : Ut03.St} (hr : H r = some (.ins C d (rdF a n))) (x : But r H H') (h : MemB X tl b H st g) : MemB X tl b H' st g :=
  h.mv fun c o e _ m => x c o e (ne_of e hr (m.elim (fun m => m.rd) fun ⟨_, _, _, z⟩ => by rw [z]; exact st_rd))
theorem MemB.told {X : Tx K mg base} {tl b st : Addr} {H : Hp} {g : Ut03.St} {o : HO} (h : MemB X tl b H st g) : MemB X tl b (upd H tl o) st g :=
  h.mv fun c u e n _ => (upd_ne n).trans e
/-- what a method of the store hands back -/
def StTo (X : Tx K mg base) (tl b st : Addr) (H : Hp) (Q : VK) (g' : Ut03.St) (ans : List Int) : Prop := ∀ (H' : Hp) (p : Addr), MemB X tl b H' st g' → FrN st b H H' → LamX.Tabs X.T H' → Nu H p → H' p = some (.lst (ans.map V.int)) → Q (.ref p) H'
theorem StTo.ans {X : Tx K mg base} {tl b st : Addr} {H : Hp} {Q : VK} {g : Ut03.St} {ans : List Int} (m : MemB X tl b H st g) (k : StTo X tl b st H Q g ans) : AnsTo X.T H Q ans := fun H' p x t n d => k H' p (m.ext x) (.ext x) t n d
/-! ### change_to -/
def spChg (X : Tx K mg base) : Sp := fun vs H Q _ => ∃ (st a a' b dx : Addr) (n : Nat) (xs : List V), vs = [.ref st, .ref a'] ∧ H st = some (.ins X.CS dx (stF a b n)) ∧ H b = some (.lst xs) ∧ xs.length ≤ 1000 ∧
  Q .non (upd (upd H b (.lst (xs ++ [.ref a]))) st (.ins X.CS dx (stF a' b n)))
theorem scChg : FnScope ["self", "entries"] ["self", "entries"] (defScope sChg) := ⟨rfl, rfl, rfl, by decide +kernel, rfl, by decide +kernel, by decide +kernel⟩
theorem Tx.gChg (X : Tx K mg base) : FnOk P w K mg base CX0 1 (X.fa 38) (X.fd 38) ["self", "entries"] (spChg X) := by
  refine X.chg.F.ok scChg (fun vs H Q E h => ?_) (fun cdv A outer s H vs Q E hr h => ?_)
  · obtain ⟨st, a, a', b, dx, n, xs, rfl, _⟩ := h
    rfl
  · obtain ⟨st, a, a', b, dx, n, xs, rfl, h1, h2, hl, k⟩ := h
    refine ⟨_, pss_cons (ps_expr (pe_bm PySem.F.plainAttrs_list PySem.F.slot_list_append PySem.F.type_list_append mt_append (pe_fld (pv 0) rfl) (pa_cons (pe_fld (pv 0) rfl) pa_nil)))
      (pss_one (ps_fld (pv 0) (pv 1) rfl)), ?_⟩
    refine ⟨_, rfl, st, X.CS, dx, _, _, rfl, h1, X.S.cl, X.S.n3, stF_earl a b n, .inl ⟨rfl, _, SqL.of h2⟩, _, rfl, st, X.CS, dx, _, _, rfl, h1, X.S.cl, X.S.n1, stF_ents a b n, b, xs, _, rfl, rfl, h2, small (by omega), ?_⟩
    have nsb : st ≠ b := ne_of h1 h2 (by intro z; cases z)
    refine ⟨_, rfl, _, rfl, st, X.CS, dx, _, rfl, (upd_ne nsb).trans h1, X.S.cl, X.S.n1, (by show 3 < 1000; decide), ?_⟩
    rw [stF_put]
    exact k
/-! ### take -/
abbrev nTake : List Sg := ["self", "number", "entry"]
def spTake (X : Tx K mg base) : Sp := fun vs H Q _ => ∃ (st tl b : Addr) (n : Nat) (g : Ut03.St) (xs : List V), vs = [.ref st, .int (n : Int)] ∧ MemB X tl b H st g ∧ Good g ∧ g.old.length ≤ 1000 ∧ H tl = some (.lst xs) ∧ LamX.Tabs X.T H ∧ StTo X tl b st H Q (Ut03.step g (.take n)).1 (Ut03.step g (.take n)).2
theorem scTake : FnScope nTake ["self", "number"] (defScope sTake) := ⟨rfl, rfl, rfl, by decide +kernel, rfl, by decide +kernel, by decide +kernel⟩
theorem any_find (l : List Ut03.Entry) (n : Nat) : (l.any fun e => e.number == n) = (l.find? fun e => e.number == n).isSome := by
  induction l with
  | nil => rfl
  | cons e l ih =>
    rw [List.any_cons, List.find?_cons]
    cases e.number == n with
    | true => rfl
    | false => exact ih
theorem step_take (g : Ut03.St) (n : Nat) : Ut03.step g (.take n) = if (g.entries.find? fun e => e.number == n).isSome = false then (g, [-2]) else (⟨g.entries.filter fun e => e.number != n, g.given, g.entries :: g.old⟩, [((g.entries.filter fun e => e.number != n).length : Int)]) := by
  rw [← any_find]
  rfl
theorem Tx.gTake (X : Tx K mg base) : FnOk P w K mg base CX0 2 (X.fa 29) (X.fd 29) ["self", "number"] (spTake X) := by
  refine X.takeM.F.ok scTake (fun vs H Q E h => ?_) (fun cdv A outer s H vs Q E hr h => ?_)
  · obtain ⟨st, tl, b, n, g, xs, rfl, _⟩ := h
    rfl
  · obtain ⟨st, tl, b, n, g, ys, rfl, hM, hg, hol, htl, hT, k⟩ := h
    obtain ⟨dx, a, xs, h1, h2, h3, h4, ⟨es, h5, h6⟩, h7⟩ := id hM
    obtain ⟨na1, na2, h5'⟩ := of_hid h5
    refine ⟨_, pss_cons (ps_if (pt_cmpR op_isN (pe_meth (pv 0) X.S.cl X.ew.m X.gEw hr X.ew.b .nil pass0 (pa_cons (pv 1) pa_nil)) pe_non (nomark _)) (pss_one (ps_ret (pe_call X.gRef hr rfl X.ref.g X.ref.F.kp X.ref.b .nil pass0 (pa_cons (pe_gint rfl X.R.none) pa_nil)))) pss_nil)
      (pss_cons (ps_expr (pe_meth (pv 0) X.S.cl X.chg.m X.gChg hr X.chg.b .nil pass0 (pa_cons (pe_lc (own := [("entry", 2)]) (g := gName 2) (tt := tTest (tOp rNe (tFld K (tVar 2) "number") (tVar 1))) rfl scTake.nd (pi_list (pe_fld (pv 0) rfl)) (blkOk_by (own := [("entry", 2)]) (N := nTake) (sc := defScope sTake) (by decide +kernel))
        (fun _ _ _ _ _ => pg_name (i := 2) scTake.nd rfl (Or.inl rfl)) (fun _ _ _ _ _ => pts_one (by exact pt_cmpR op_ne (pe_fld (pv 2) rfl) (pv 1) (nomark _))) (fun _ _ _ _ _ => pv 2)) pa_nil)))
      (pss_one (ps_ret (pe_lst (pa_cons (pe_callB call_len_seq (by rfl) X.B.len PySem.boot_len (pa_cons (pe_fld (pv 0) rfl) pa_nil)) pa_nil))))), ?_⟩
    rw [step_take] at k
    refine ⟨_, rfl, st, dx, _, rfl, h1, stF_no _ _ _ (by decide +kernel) (by decide +kernel) (by decide +kernel), _, rfl, st, n, g.entries, rfl, hM.ents, fun hn => ?_, fun e ea hs he => ?_⟩
    · rw [hn] at k
      refine ⟨rfl, _, rfl, ?_⟩
      refine ifT rfl ?_
      exact ⟨_, rfl, ref_ans (Same.refl H) hT (StTo.ans hM k)⟩
    · rw [hs] at k
      have k : StTo X tl b st H Q ⟨g.entries.filter fun e => e.number != n, g.given, g.entries :: g.old⟩ [((g.entries.filter fun e => e.number != n).length : Int)] := k
      refine ⟨rfl, _, rfl, ?_⟩
      refine ifF rfl ?_
      refine ⟨_, rfl, st, dx, _, rfl, h1, stF_no _ _ _ (by decide +kernel) (by decide +kernel) (by decide +kernel), _, rfl, st, X.CS, dx, _, _, rfl, h1, X.S.cl, X.S.n1, stF_ents _ _ _, a, rfl, ⟨_, SqL.of h5'⟩, fun D1 hD => lc_list (K := K) (a := a) (xs := es.map V.ref) (fun i H1 => ∃ ns : List Addr, Same H H1 ∧ H1 D1 = some (.lst (ns.map V.ref)) ∧ ns.length ≤ i ∧ All2 (EntAt X.CE X.CA (hid tl b H)) ns ((g.entries.take i).filter fun e => e.number != n)) ?_ (fun i H1 _ ⟨_, s1, _⟩ => s1.seq (SqL.of h5')) ?_ ?_⟩
      · exact ⟨[], Same.new hD, upd_same, Nat.le_refl _, .nil⟩
      · rintro i v H1 hx ⟨ns, s1, d1, l1, A1⟩
        obtain ⟨eb, en, heb, rfl, hen, hent⟩ := ents_walk h6 hx
        have hi : i < es.length := (List.getElem?_eq_some_iff.mp heb).1
        have hgl := hg.now.len
        have hel := h6.len
        obtain ⟨de, qa, t, e1, _, _⟩ := id hent
        have ef := take_more hen
        refine ⟨rfl, _, rfl, eb, X.CE, de, _, _, rfl, s1 _ _ (of_hid e1).2.2, X.E.cl, X.E.n1, entF_number _ qa t, _, rfl, rfl, _, rfl, ?_⟩
        refine ite2 (fun c => ?_) (fun c => ?_)
        · have c' : ¬ en.number = n := fun z => by
            rw [vint_eq, decide_eq_true (show (en.number : Int) = (n : Int) by omega)] at c
            cases c
          refine ⟨_, rfl, _, d1, small (by rw [List.length_map]; omega), ns ++ [eb], Same.over s1 hD, ?_, ?_, ?_⟩
          · rw [upd_same, List.map_append]
            rfl
          · rw [List.length_append, List.length_singleton]
            omega
          · rw [ef, List.filter_append, List.filter_cons_of_pos (by simpa using c'), List.filter_nil]
            exact All2.snoc hent A1
        · have c' : en.number = n := by
            by_cases z : en.number = n
            · exact z
            · exact absurd (by rw [vint_eq, decide_eq_false (by omega)]; rfl) c
          refine ⟨ns, s1, d1, by omega, ?_⟩
          rw [ef, List.filter_append, List.filter_cons_of_neg (by simpa using c'), List.filter_nil, List.append_nil]
          exact A1
      · rintro H1 ⟨ns, s1, d1, l1, A1⟩
        rw [List.length_map, h6.len, List.take_length] at A1
        have nD : D1 ≠ tl := fun z => by rw [z, htl] at hD; cases hD
        have nDb : D1 ≠ b := fun z => by rw [z, h2] at hD; cases hD
        have nds : D1 ≠ st := (ne_of_none h1 hD).symm
        have nsb : st ≠ b := ne_of h1 h2 (by intro z; cases z)
        refine ⟨st, a, D1, b, dx, g.given, xs.map V.ref, rfl, s1 _ _ h1, s1 _ _ h2, by rw [List.length_map, h7.len, List.length_reverse]; exact hol, ?_⟩
        have fr1 : FrN st b H (upd (upd H1 b (.lst (xs.map V.ref ++ [.ref a]))) st (.ins X.CS dx (stF D1 b g.given))) := ((FrN.same s1).trans FrN.earl).trans FrN.st
        have d2 : upd (upd H1 b (.lst (xs.map V.ref ++ [.ref a]))) st (.ins X.CS dx (stF D1 b g.given)) D1 = some (.lst (ns.map V.ref)) := (upd_ne nds).trans ((upd_ne nDb).trans d1)
        have tk1 : Tk H (upd (upd H1 b (.lst (xs.map V.ref ++ [.ref a]))) st (.ins X.CS dx (stF D1 b g.given))) := ((Tk.same s1).trans (Tk.lst (s1 _ _ h2))).trans (Tk.ins ((upd_ne nsb).trans (s1 _ _ h1)))
        refine ⟨_, rfl, st, X.CS, dx, _, _, rfl, upd_same, X.S.cl, X.S.n1, stF_ents _ _ _, D1, _, rfl, .inl (SqL.of d2), by show 1 ≤ sizeLine; decide, fun p hp => ?_⟩
        have nps : st ≠ p := fun z => by rw [← z, upd_same] at hp; cases hp
        have hp' : upd H1 b (.lst (xs.map V.ref ++ [.ref a])) p = none := by rw [upd_ne nps.symm] at hp; exact hp
        have npb : b ≠ p := fun z => by rw [← z, upd_same] at hp'; cases hp'
        have hp1 : H1 p = none := by rw [upd_ne npb.symm] at hp'; exact hp'
        have fr2 := fr1.trans (FrN.same (Same.new (o := .lst [V.int (((ns.map V.ref).length : Nat) : Int)]) hp))
        have mv := fr2.mv (tl := tl) h1
        refine k _ p ⟨dx, D1, xs ++ [a], ?_, ?_, h3, h4, ⟨ns, ?_, ?_⟩, ?_⟩ fr2 ((tk1.trans (Tk.same (Same.new hp))).tabs hT) (Nu.ext (.of s1) hp1) ?_
        · rw [upd_ne nps, upd_same]
        · rw [upd_ne npb, upd_ne nsb.symm, upd_same, List.map_append]
          rfl
        · rw [hid_ne nD nDb, upd_ne (ne_of_none d2 hp)]
          exact d2
        · exact A1.imp fun b y z => z.mv mv
        · show All2 _ _ (g.entries :: g.old).reverse
          rw [List.reverse_cons]
          exact All2.snoc (R := LiAt X.CE X.CA _) (LiAt.mv mv ⟨es, h5, h6⟩) (h7.imp fun e y z => z.mv mv)
        · rw [upd_same, List.length_map, A1.len]
          rfl
end
end TM

set_option Elab.async false
set_option linter.all false
set_option maxRecDepth 100000
set_option maxHeartbeats 2000000
namespace TM
open PySem PySem.Spec PyProof.Rows L2
theorem All2.unsnoc {α β : Type} {R : α → β → Prop} {m : List β} {y : β} : ∀ {l : List α}, All2 R l (m ++ [y]) → ∃ l' x, l = l' ++ [x] ∧ All2 R l' m ∧ R x y := by
  induction m with
  | nil =>
    intro l h
    cases h with
    | cons r t =>
      cases t
      exact ⟨[], _, rfl, .nil, r⟩
  | cons z m ih =>
    intro l h
    cases h with
    | cons r t =>
      obtain ⟨l', x, rfl, h1, h2⟩ := ih t
      exact ⟨_ :: l', x, rfl, .cons r h1, h2⟩
section
variable {P : Program} {w : World} {K : PySem.W.Frag} {mg : Sg → Option Value} {base : Heap}
/-! ### the store is made -/
def spStI (X : Tx K mg base) : Sp := fun vs H Q _ => ∃ (p dx : Addr), vs = [.ref p] ∧ H p = some (.ins X.CS dx []) ∧
  ∀ (H' : Hp) (a b : Addr), H' p = some (.ins X.CS dx (stF a b 1)) → H' a = some (.lst []) → H' b = some (.lst []) → a ≠ b → H a = none → H b = none → (∀ c o, H c = some o → c ≠ p → H' c = some o) → Q .non H'
theorem scStI : FnScope ["self"] ["self"] (defScope sStI) := ⟨rfl, rfl, rfl, by decide +kernel, rfl, by decide +kernel, by decide +kernel⟩
theorem Tx.gStI (X : Tx K mg base) : FnOk P w K mg base CX0 1 (X.fa 27) (X.fd 27) ["self"] (spStI X) := by
  refine X.S.F.ok scStI (fun vs H Q E h => ?_) (fun cdv A outer s H vs Q E hr h => ?_)
  · obtain ⟨p, dx, rfl, _⟩ := h
    rfl
  · obtain ⟨p, dx, rfl, hp, k⟩ := h
    refine ⟨_, pss_cons (ps_fld (pv 0) (pe_lst pa_nil) rfl) (pss_cons (ps_fld (pv 0) (pe_lst pa_nil) rfl) (pss_one (ps_fld (pv 0) pe_int rfl))), ?_⟩
    refine ⟨Nat.zero_le _, fun a ha => ?_⟩
    have npa : p ≠ a := ne_of_none hp ha
    refine ⟨_, rfl, p, X.CS, dx, [], rfl, (upd_ne npa).trans hp, X.S.cl, X.S.n1, (by show 0 < 1000; decide), ?_⟩
    refine ⟨Nat.zero_le _, fun b hb => ?_⟩
    have npb : p ≠ b := fun z => by rw [← z, upd_same] at hb; cases hb
    have hb1 : upd H a (.lst []) b = none := by rw [upd_ne npb.symm] at hb; exact hb
    have nab : a ≠ b := fun z => by rw [← z, upd_same] at hb1; cases hb1
    have hb0 : H b = none := by rw [upd_ne nab.symm] at hb1; exact hb1
    refine ⟨_, rfl, p, X.CS, dx, _, rfl, (upd_ne npb).trans upd_same, X.S.cl, X.S.n3, (by show 1 < 1000; decide), ?_⟩
    refine ⟨_, rfl, p, X.CS, dx, _, rfl, upd_same, X.S.cl, X.S.n2, (by rw [put2 (by decide +kernel)]; show 2 < 1000; decide), ?_⟩
    refine k _ a b ?_ ?_ ?_ nab ha hb0 fun c o e hc => ?_
    · rw [upd_same, put3 (by decide +kernel) (by decide +kernel) (by decide +kernel)]
      rfl
    · rw [upd_ne npa.symm, upd_ne npa.symm, upd_ne nab, upd_ne npa.symm, upd_same]
    · rw [upd_ne npb.symm, upd_ne npb.symm, upd_same]
    · rw [upd_ne hc, upd_ne hc, upd_ne (ne_of_none e hb0), upd_ne hc, upd_ne (ne_of_none e ha)]
      exact e
/-! ### undo -/
def spUndo (X : Tx K mg base) : Sp := fun vs H Q _ => ∃ (st tl b : Addr) (g : Ut03.St) (xs : List V), vs = [.ref st] ∧ MemB X tl b H st g ∧ Good g ∧ H tl = some (.lst xs) ∧ LamX.Tabs X.T H ∧ StTo X tl b st H Q (Ut03.step g .undo).1 (Ut03.step g .undo).2
theorem scUndo : FnScope ["self"] ["self"] (defScope sUndo) := ⟨rfl, rfl, rfl, by decide +kernel, rfl, by decide +kernel, by decide +kernel⟩
theorem Tx.gUndo (X : Tx K mg base) : FnOk P w K mg base CX0 2 (X.fa 37) (X.fd 37) ["self"] (spUndo X) := by
  refine X.undoM.F.ok scUndo (fun vs H Q E h => ?_) (fun cdv A outer s H vs Q E hr h => ?_)
  · obtain ⟨st, tl, b, g, xs, rfl, _⟩ := h
    rfl
  · obtain ⟨st, tl, b, g, ys, rfl, hM, hg, htl, hT, k⟩ := h
    obtain ⟨dx, a, xs, h1, h2, h3, h4, h5, h7⟩ := id hM
    refine ⟨_, pss_cons (ps_if (pt_cmpR op_eq (pe_callB call_len_seq (by rfl) X.B.len PySem.boot_len (pa_cons (pe_fld (pv 0) rfl) pa_nil)) pe_int (nomark _)) (pss_one (ps_ret (pe_call X.gRef hr rfl X.ref.g X.ref.F.kp X.ref.b .nil pass0 (pa_cons (pe_gint rfl X.R.undo) pa_nil)))) pss_nil)
      (pss_cons (ps_fld (pv 0) (pe_bm0 PySem.F.plainAttrs_list PySem.F.slot_list_pop PySem.F.type_list_pop mt_pop (pe_fld (pv 0) rfl)) rfl)
      (pss_one (ps_ret (pe_lst (pa_cons (pe_callB call_len_seq (by rfl) X.B.len PySem.boot_len (pa_cons (pe_fld (pv 0) rfl) pa_nil)) pa_nil))))), ?_⟩
    refine ⟨_, rfl, st, X.CS, dx, _, _, rfl, h1, X.S.cl, X.S.n3, stF_earl _ _ _, b, _, rfl, .inl (SqL.of h2), rfl, _, rfl, ?_⟩
    have hl := h7.len
    rw [List.length_reverse] at hl
    have kk : StTo X tl b st H Q (match g.old with
      | [] => (g, [-7])
      | l :: r => (({ g with entries := l, old := r } : Ut03.St), Ut03.ints [l.length])).1 (match g.old with
      | [] => (g, [-7])
      | l :: r => (({ g with entries := l, old := r } : Ut03.St), Ut03.ints [l.length])).2 := k
    clear k
    cases eo : g.old with
    | nil =>
      rw [eo] at kk hl
      refine ifT ?_ ?_
      · rw [vint_eq, List.length_map, hl]
        rfl
      · exact ⟨_, rfl, ref_ans (Same.refl H) hT (StTo.ans hM kk)⟩
    | cons l r =>
      rw [eo] at kk hl
      have kk : StTo X tl b st H Q ⟨l, g.given, r⟩ (Ut03.ints [l.length]) := kk
      refine ifF ?_ ?_
      · rw [vint_eq, List.length_map, hl, List.length_cons]
        exact decide_eq_false (fun z => by omega)
      · rw [eo, List.reverse_cons] at h7
        obtain ⟨xs', c, rfl, A1, A2⟩ := h7.unsnoc
        obtain ⟨es, c1, c2⟩ := id A2
        obtain ⟨nc1, nc2, c1'⟩ := of_hid c1
        have nsb : st ≠ b := ne_of h1 h2 (by intro z; cases z)
        have ncs : c ≠ st := ne_of c1' h1 (by intro z; cases z)
        refine ⟨_, rfl, st, X.CS, dx, _, _, rfl, h1, X.S.cl, X.S.n3, stF_earl _ _ _, .inl ⟨rfl, _, SqL.of h2⟩, b, _, V.ref c, rfl, rfl, h2, ?_, ?_⟩
        · rw [List.map_append, List.length_append]
          show (xs'.map V.ref ++ [V.ref c])[(xs'.map V.ref).length + 1 - 1]? = _
          rw [Nat.add_sub_cancel, List.getElem?_append_right (Nat.le_refl _), Nat.sub_self]
          rfl
        · have ed : ((xs' ++ [c]).map V.ref).dropLast = xs'.map V.ref := by
            rw [List.map_append]
            exact List.dropLast_concat
          rw [ed]
          refine ⟨_, rfl, st, X.CS, dx, _, rfl, (upd_ne nsb).trans h1, X.S.cl, X.S.n1, (by show 3 < 1000; decide), ?_⟩
          rw [stF_put]
          have fr1 : FrN st b H (upd (upd H b (.lst (xs'.map V.ref))) st (.ins X.CS dx (stF c b g.given))) := FrN.earl.trans FrN.st
          have d2 : upd (upd H b (.lst (xs'.map V.ref))) st (.ins X.CS dx (stF c b g.given)) c = some (.lst (es.map V.ref)) := (upd_ne ncs).trans ((upd_ne nc2).trans c1')
          have tk1 : Tk H (upd (upd H b (.lst (xs'.map V.ref))) st (.ins X.CS dx (stF c b g.given))) := (Tk.lst h2).trans (Tk.ins ((upd_ne nsb).trans h1))
          refine ⟨_, rfl, st, X.CS, dx, _, _, rfl, upd_same, X.S.cl, X.S.n1, stF_ents _ _ _, c, _, rfl, .inl (SqL.of d2), by show 1 ≤ sizeLine; decide, fun p hp => ?_⟩
          have nps : st ≠ p := fun z => by rw [← z, upd_same] at hp; cases hp
          have hp' : upd H b (.lst (xs'.map V.ref)) p = none := by rw [upd_ne nps.symm] at hp; exact hp
          have npb : b ≠ p := fun z => by rw [← z, upd_same] at hp'; cases hp'
          have hp1 : H p = none := by rw [upd_ne npb.symm] at hp'; exact hp'
          have fr2 := fr1.trans (FrN.same (Same.new (o := .lst [V.int (((es.map V.ref).length : Nat) : Int)]) hp))
          have mv := fr2.mv (tl := tl) h1
          refine kk _ p ⟨dx, c, xs', ?_, ?_, h3, h4, A2.mv mv, A1.imp fun e y z => z.mv mv⟩ fr2 ((tk1.trans (Tk.same (Same.new hp))).tabs hT) (fun o e => by rw [hp1] at e; cases e) ?_
          · rw [upd_ne nps, upd_same]
          · rw [upd_ne npb, upd_ne nsb.symm, upd_same]
          · rw [upd_same, List.length_map, c2.len]
            rfl
/-! ### put -/
theorem sameQ_is (e : Ut03.Entry) (q : Ut03.Ask) : sameQ (askOf e) q = (e.source == q.source && (e.ahead == q.ahead && (e.behind == q.behind && e.client == q.client))) := by
  show (decide (e.source = q.source) && (decide (e.client = q.client) && decide ((if e.ahead = q.ahead then 1 else 0) + (if e.behind = q.behind then 1 else 0) = 2))) = _
  by_cases c1 : e.source = q.source <;> by_cases c2 : e.ahead = q.ahead <;> by_cases c3 : e.behind = q.behind <;> by_cases c4 : e.client = q.client <;> simp [c1, c2, c3, c4]
theorem others_more {l : List Ut03.Entry} {i : Nat} {en : Ut03.Entry} {q : Ut03.Ask} (h : l[i]? = some en) : others (l.take (i + 1)) q = others (l.take i) q ++ if sameQ (askOf en) q = true then [] else [en] := by
  unfold others
  rw [take_more h, List.filter_append, sameQ_is]
  refine congrArg _ ?_
  rw [List.filter_cons, List.filter_nil]
  cases (en.source == q.source && (en.ahead == q.ahead && (en.behind == q.behind && en.client == q.client))) <;> rfl
theorem put_bad (q : Ut03.Ask) (t : List Nat) : (Ut03.askOk q = false ∨ Ut03.sentOk t = false ∨ t = []) ↔ (Ut03.askOk q = false ∨ sentW t = false) := by
  unfold sentW
  cases t with
  | nil => simp
  | cons x t => simp
abbrev nPut : List Sg := ["self", "ask", "translation", "others", "number", "entry"]
def spPut (X : Tx K mg base) : Sp := fun vs H Q _ => ∃ (st qa t tl b : Addr) (g : Ut03.St) (q : Ut03.Ask) (tr : List Nat) (xs : List V), vs = [.ref st, .ref qa, .ref t] ∧ MemB X tl b H st g ∧ Good g ∧ g.old.length ≤ 1000 ∧ AskAt X.CA (hid tl b H) qa q ∧ hid tl b H t = some (.lst (iv tr)) ∧
  q.source.length ≤ 1000 ∧ tr.length ≤ 1000 ∧ H tl = some (.lst xs) ∧ LamX.Tabs X.T H ∧ StTo X tl b st H Q (Ut03.step g (.put q tr)).1 (Ut03.step g (.put q tr)).2
theorem scPut : FnScope nPut ["self", "ask", "translation"] (defScope sPut) := ⟨rfl, rfl, rfl, by decide +kernel, rfl, by decide +kernel, by decide +kernel⟩
def ttPut (K : PySem.W.Frag) (CA : Addr) : TT := tNot (tB (tCall (spSameQ CA) [] E0 (tCons (tFld K (tVar 5) "ask") (tCons (tVar 1) tNil))))
theorem Tx.gPut (X : Tx K mg base) : FnOk P w K mg base CX0 4 (X.fa 28) (X.fd 28) ["self", "ask", "translation"] (spPut X) := by
  refine X.putM.F.ok scPut (fun vs H Q E h => ?_) (fun cdv A outer s H vs Q E hr h => ?_)
  · obtain ⟨st, qa, t, tl, b, g, q, tr, xs, rfl, _⟩ := h
    rfl
  · obtain ⟨st, qa, t, tl, b, g, q, tr, ys, rfl, hM, hg, hol, hq, ht, hlq, hlt, htl, hT, k⟩ := h
    obtain ⟨dx, a, xs, h1, h2, h3, h4, ⟨es, h5, h6⟩, h7⟩ := id hM
    obtain ⟨na1, na2, h5'⟩ := of_hid h5
    obtain ⟨nt1, nt2, ht'⟩ := of_hid ht
    have hq' : AskAt X.CA H qa q := hq.same (hid_same tl b H)
    have hr1 : Room 1 _ := hr.mono (by decide)
    have hr2 : Room 2 _ := hr.mono (by decide)
    refine ⟨_, pss_cons (ps_if (PW.pt (pw_or (pt_not (pt_val (pe_call X.gIsAsk hr rfl X.isAsk.g X.isAsk.F.kp X.isAsk.b .nil pass0 (pa_cons (pv 1) pa_nil)))) (pw_or1 (pt_not (pt_val (pe_call X.gSentW hr2 rfl X.sentW.g X.sentW.F.kp X.sentW.b .nil pass0 (pa_cons (pv 2) pa_nil)))))))
        (pss_one (ps_ret (pe_call X.gRef hr1 rfl X.ref.g X.ref.F.kp X.ref.b .nil pass0 (pa_cons (pe_gint rfl X.R.wrong) pa_nil)))) pss_nil)
      (pss_cons (ps_setLc (i := 3) (own := [("entry", 5)]) (g := gName 5) (tt := ttPut K X.CA) rfl scPut.nd rfl rfl (sw_true rfl rfl rfl (by decide +kernel)) (pi_list (pe_fld (pv 0) rfl)) (blkOk_by (own := [("entry", 5)]) (N := nPut) (sc := defScope sPut) (by decide +kernel))
        (fun _ _ _ _ _ => pg_name (i := 5) scPut.nd rfl (Or.inl rfl)) (fun _ _ _ _ _ => pts_one (by exact pt_not (pt_val (pe_call X.gSameQ hr2 rfl X.sameQ.g X.sameQ.F.kp X.sameQ.b .nil pass0 (by exact pa_cons (pe_fld (pv 5) rfl) (pa_cons (pv 1) pa_nil))))))
        (fun _ _ _ _ _ => pv 5))
      (pss_cons (ps_if (pt_cmpR op_ge (pe_callB call_len_seq (by rfl) X.B.len PySem.boot_len (pa_cons (pv 3) pa_nil)) (pe_gint rfl X.R.most) (nomark _)) (pss_one (ps_ret (pe_call X.gRef hr1 rfl X.ref.g X.ref.F.kp X.ref.b .nil pass0 (pa_cons (pe_gint rfl X.R.many) pa_nil)))) pss_nil)
      (pss_cons (ps_set (i := 4) scPut.nd rfl (Or.inl rfl) (pe_fld (pv 0) rfl))
      (pss_cons (ps_fld (pv 0) (pe_op op_add (pv 4) pe_int) rfl)
      (pss_cons (ps_expr (pe_meth (pv 0) X.S.cl X.chg.m X.gChg hr1 X.chg.b .nil pass0 (pa_cons (pe_op op_cat (pv 3) (pe_lst (pa_cons (pe_make X.E.M X.gEntI hr2 rfl X.E.g X.E.b .nil pass0 (pa_cons (pv 4) (pa_cons (pv 1) (pa_cons (pv 2) pa_nil)))) pa_nil))) pa_nil)))
      (pss_one (ps_ret (pe_lst (pa_cons (pv 4) (pa_cons (pe_callB call_len_seq (by rfl) X.B.len PySem.boot_len (pa_cons (pe_fld (pv 0) rfl) pa_nil)) pa_nil)))))))))), ?_⟩
    rw [step_put] at k
    refine ⟨_, rfl, qa, q, rfl, hq', hlq, fun H0 s0 => ⟨_, rfl, ?_⟩⟩
    cases c1 : Ut03.askOk q with
    | false =>
      rw [if_pos (.inl c1)] at k
      refine ifT rfl ?_
      exact ⟨_, rfl, ref_ans s0 hT (StTo.ans hM k)⟩
    | true =>
      refine ifF rfl ?_
      refine ⟨_, rfl, t, tr, rfl, SqL.of (s0 _ _ ht'), hlt, fun H0' s0' => ⟨_, rfl, ?_⟩⟩
      have s00 := s0.trans s0'
      cases c2 : TM.sentW tr with
      | false =>
        rw [if_pos ((put_bad q tr).mpr (.inr c2))] at k
        exact ⟨_, rfl, ref_ans s00 hT (StTo.ans hM k)⟩
      | true =>
        rw [if_neg (fun z => ((put_bad q tr).mp z).elim (fun y => by rw [c1] at y; cases y) (fun y => by rw [c2] at y; cases y))] at k
        clear s0 s0'
        refine ⟨_, rfl, st, X.CS, dx, _, _, rfl, s00 _ _ h1, X.S.cl, X.S.n1, stF_ents _ _ _, a, rfl, ⟨_, SqL.of (s00 _ _ h5')⟩, fun D1 hD => lc_list (K := K) (a := a) (xs := es.map V.ref) (fun i H1 => ∃ ns : List Addr, Same H0' H1 ∧ H1 D1 = some (.lst (ns.map V.ref)) ∧ ns.length ≤ i ∧ All2 (EntAt X.CE X.CA (hid tl b H)) ns (others (g.entries.take i) q)) ?_ (fun i H1 _ ⟨_, s1, _⟩ => s1.seq (SqL.of (s00 _ _ h5'))) ?_ ?_⟩
        · exact ⟨[], Same.new hD, upd_same, Nat.le_refl _, .nil⟩
        · rintro i v H1 hx ⟨ns, s1, d1, l1, A1⟩
          obtain ⟨eb, en, heb, rfl, hen, hent⟩ := ents_walk h6 hx
          have hi : i < es.length := (List.getElem?_eq_some_iff.mp heb).1
          have hgl := hg.now.len
          have hel := h6.len
          obtain ⟨de, qe, te, e1, e2, _⟩ := id hent
          have s01 := s00.trans s1
          have ef := take_more hen
          have eo := others_more (q := q) hen
          refine ⟨rfl, _, rfl, eb, X.CE, de, _, _, rfl, s01 _ _ (of_hid e1).2.2, X.E.cl, X.E.n2, entF_ask _ qe te, _, rfl, qe, qa, askOf en, q, rfl, (e2.same (hid_same tl b H)).same s01, hq'.same s01, _, rfl, ?_⟩
          cases c3 : TM.sameQ (askOf en) q with
          | false =>
            rw [c3] at eo
            refine ifT rfl ?_
            refine ⟨_, rfl, _, d1, small (by rw [List.length_map]; omega), ns ++ [eb], Same.over s1 hD, ?_, ?_, ?_⟩
            · rw [upd_same, List.map_append]
              rfl
            · rw [List.length_append, List.length_singleton]
              omega
            · rw [eo]
              exact All2.snoc hent A1
          | true =>
            rw [c3, if_pos rfl, List.append_nil] at eo
            refine ifF rfl ?_
            refine ⟨ns, s1, d1, by omega, ?_⟩
            rw [eo]
            exact A1
        · rintro H1 ⟨ns, s1, d1, l1, A1⟩
          rw [List.length_map, h6.len, List.take_length] at A1
          have s01 := s00.trans s1
          have hD0 : H D1 = none := by
            cases z : H D1 with
            | none => rfl
            | some o =>
              rw [s00 _ _ z] at hD
              cases hD
          refine ⟨_, rfl, D1, _, rfl, .inl (SqL.of d1), _, _, rfl, rfl, _, rfl, ?_⟩
          refine ite2 (fun c => ?_) (fun c => ?_)
          · have c' : 30 ≤ (others g.entries q).length := by
              have z := of_decide_eq_true c
              rw [List.length_map, A1.len] at z
              omega
            rw [if_pos c'] at k
            exact ⟨_, rfl, ref_ans s01 hT (StTo.ans hM k)⟩
          · have c' : ¬ 30 ≤ (others g.entries q).length := fun z => c (decide_eq_true (by rw [List.length_map, A1.len]; omega))
            rw [if_neg c'] at k
            have k : StTo X tl b st H Q ⟨others g.entries q ++ [⟨g.given, q.source, tr, q.ahead, q.behind, q.client⟩], g.given + 1, g.entries :: g.old⟩ (Ut03.ints [g.given, (others g.entries q ++ [(⟨g.given, q.source, tr, q.ahead, q.behind, q.client⟩ : Ut03.Entry)]).length]) := k
            have nsb : st ≠ b := ne_of h1 h2 (by intro z; cases z)
            refine ⟨_, rfl, st, X.CS, dx, _, _, rfl, s01 _ _ h1, X.S.cl, X.S.n2, stF_next _ _ _, _, rfl, _, _, rfl, rfl, _, rfl, st, X.CS, dx, _, rfl, s01 _ _ h1, X.S.cl, X.S.n2, (by show 3 < 1000; decide), ?_⟩
            rw [stF_inc a b g.given _ (g.given + 1) (by omega)]
            have nds : D1 ≠ st := (ne_of_none h1 hD0).symm
            have ndb : D1 ≠ b := (ne_of_none h2 hD0).symm
            have nst : st ≠ D1 := nds.symm
            have fr1 : FrN st b H (upd H1 st (.ins X.CS dx (stF a b (g.given + 1)))) := (FrN.same s01).trans FrN.st
            have tk1 : Tk H (upd H1 st (.ins X.CS dx (stF a b (g.given + 1)))) := (Tk.same s01).trans (Tk.ins (s01 _ _ h1))
            have b1 : upd H1 st (.ins X.CS dx (stF a b (g.given + 1))) b = some (.lst (xs.map V.ref)) := (upd_ne nsb.symm).trans (s01 _ _ h2)
            have t1 : upd H1 st (.ins X.CS dx (stF a b (g.given + 1))) tl = some (.lst ys) := (upd_ne h4.symm).trans (s01 _ _ htl)
            have e1 : upd H1 st (.ins X.CS dx (stF a b (g.given + 1))) D1 = some (.lst (ns.map V.ref)) := (upd_ne nds).trans d1
            have g1 : upd H1 st (.ins X.CS dx (stF a b (g.given + 1))) st = some (.ins X.CS dx (stF a b (g.given + 1))) := upd_same
            generalize upd H1 st (.ins X.CS dx (stF a b (g.given + 1))) = H2 at *
            refine ⟨_, rfl, st, dx, _, rfl, g1, stF_no _ _ _ (by decide +kernel) (by decide +kernel) (by decide +kernel), _, rfl, _, rfl, _, rfl, _, rfl, ?_⟩
            intro u du nu nd ne
            refine ⟨u, du, _, rfl, rfl, upd_same, fun H3 m1 m2 => ⟨rfl, by show 1 ≤ sizeLine; decide, fun v hv => ?_⟩⟩
            have s3 : Same H2 H3 := Same.made nu nd m2
            have s4 : Same H3 (upd H3 v (.lst [V.ref u])) := Same.new hv
            have hnl : ns.length ≤ 30 := by rw [A1.len]; omega
            refine ⟨D1, v, _, _, rfl, rfl, s4 _ _ (s3 _ _ e1), upd_same, small' (by rw [List.length_map]; show _ + 1 ≤ _; omega), fun p hp => ?_⟩
            have s5 : Same H2 (upd (upd H3 v (.lst [V.ref u])) p (.lst (ns.map V.ref ++ [V.ref u]))) := (s3.trans s4).trans (Same.new hp)
            have u5 : upd (upd H3 v (.lst [V.ref u])) p (.lst (ns.map V.ref ++ [V.ref u])) u = some (.ins X.CE du (entF g.given qa t)) := (s4.trans (Same.new hp)) _ _ m1
            have p5 : upd (upd H3 v (.lst [V.ref u])) p (.lst (ns.map V.ref ++ [V.ref u])) p = some (.lst ((ns ++ [u]).map V.ref)) := by
              rw [upd_same, List.map_append]
              rfl
            have np2 : H2 p = none := by
              cases z : H2 p with
              | none => rfl
              | some o =>
                rw [(s3.trans s4) _ _ z] at hp
                cases hp
            generalize upd (upd H3 v (.lst [V.ref u])) p (.lst (ns.map V.ref ++ [V.ref u])) = H5 at *
            refine ⟨st, a, p, b, dx, g.given + 1, xs.map V.ref, rfl, s5 _ _ g1, s5 _ _ b1, by rw [List.length_map, h7.len, List.length_reverse]; exact hol, ?_⟩
            have nps : p ≠ st := (ne_of_none g1 np2).symm
            have npb : p ≠ b := (ne_of_none b1 np2).symm
            have npt : p ≠ tl := (ne_of_none t1 np2).symm
            have nus : u ≠ st := (ne_of_none g1 nu).symm
            have nub : u ≠ b := (ne_of_none b1 nu).symm
            have nut : u ≠ tl := (ne_of_none t1 nu).symm
            have fr2 : FrN st b H (upd (upd H5 b (.lst (xs.map V.ref ++ [.ref a]))) st (.ins X.CS dx (stF p b (g.given + 1)))) := ((fr1.trans (FrN.same s5)).trans FrN.earl).trans FrN.st
            have tk2 : Tk H (upd (upd H5 b (.lst (xs.map V.ref ++ [.ref a]))) st (.ins X.CS dx (stF p b (g.given + 1)))) := ((tk1.trans (Tk.same s5)).trans (Tk.lst (s5 _ _ b1))).trans (Tk.ins ((upd_ne nsb).trans (s5 _ _ g1)))
            have g6 : upd (upd H5 b (.lst (xs.map V.ref ++ [.ref a]))) st (.ins X.CS dx (stF p b (g.given + 1))) st = some (.ins X.CS dx (stF p b (g.given + 1))) := upd_same
            have b6 : upd (upd H5 b (.lst (xs.map V.ref ++ [.ref a]))) st (.ins X.CS dx (stF p b (g.given + 1))) b = some (.lst ((xs ++ [a]).map V.ref)) := by
              rw [upd_ne nsb.symm, upd_same, List.map_append]
              rfl
            have p6 : upd (upd H5 b (.lst (xs.map V.ref ++ [.ref a]))) st (.ins X.CS dx (stF p b (g.given + 1))) p = some (.lst ((ns ++ [u]).map V.ref)) := (upd_ne nps).trans ((upd_ne npb).trans p5)
            have u6 : upd (upd H5 b (.lst (xs.map V.ref ++ [.ref a]))) st (.ins X.CS dx (stF p b (g.given + 1))) u = some (.ins X.CE du (entF g.given qa t)) := (upd_ne nus).trans ((upd_ne nub).trans u5)
            have n6 : ∀ z, upd (upd H5 b (.lst (xs.map V.ref ++ [.ref a]))) st (.ins X.CS dx (stF p b (g.given + 1))) z = none → H1 z = none → True := fun _ _ _ => trivial
            generalize upd (upd H5 b (.lst (xs.map V.ref ++ [.ref a]))) st (.ins X.CS dx (stF p b (g.given + 1))) = H6 at *
            refine ⟨_, rfl, _, rfl, st, X.CS, dx, _, _, rfl, g6, X.S.cl, X.S.n1, stF_ents _ _ _, p, _, rfl, .inl (SqL.of p6), by show 2 ≤ sizeLine; decide, fun z hz => ?_⟩
            have fr3 := fr2.trans (FrN.same (Same.new (o := .lst [V.int (g.given : Int), V.int ((((ns ++ [u]).map V.ref).length : Nat) : Int)]) hz))
            have mv := fr3.mv (tl := tl) h1
            have nzs : st ≠ z := ne_of_none g6 hz
            have nzb : b ≠ z := ne_of_none b6 hz
            have hu : Nu H z := fun o e => by
              by_cases w : ∃ ps, o = .tbl ps
              · exact w
              · rw [fr2 z o e nzs.symm nzb.symm fun ps y => w ⟨ps, y⟩] at hz
                cases hz
            refine k _ z ⟨dx, p, xs ++ [a], (upd_ne nzs).trans g6, (upd_ne nzb).trans b6, h3, h4, ⟨ns ++ [u], ?_, ?_⟩, ?_⟩ fr3 ((tk2.trans (Tk.same (Same.new hz))).tabs hT) hu ?_
            · rw [hid_ne npt npb, upd_ne (ne_of_none p6 hz)]
              exact p6
            · refine All2.snoc (R := EntAt X.CE X.CA _) (y := ⟨g.given, q.source, tr, q.ahead, q.behind, q.client⟩) ⟨du, qa, t, ?_, hq.mv mv, mv _ _ ht .lst⟩ (A1.imp fun b y z => z.mv mv)
              rw [hid_ne nut nub, upd_ne (ne_of_none u6 hz)]
              exact u6
            · show All2 _ _ (g.entries :: g.old).reverse
              rw [List.reverse_cons]
              exact All2.snoc (R := LiAt X.CE X.CA _) (LiAt.mv mv ⟨es, h5, h6⟩) (h7.imp fun e y z => z.mv mv)
            · rw [upd_same, List.length_map, List.length_append, A1.len, List.length_append]
              rfl
end
end TM

set_option Elab.async false
set_option linter.all false
set_option maxRecDepth 100000
set_option maxHeartbeats 2000000
namespace TM
open PySem PySem.Spec PyProof.Rows L2
/-! ### how many different ones -/
theorem dups_nodup {α : Type} [BEq α] [LawfulBEq α] : ∀ (n : Nat) (l : List α), l.length ≤ n → l.eraseDups.Nodup
  | _, [], _ => by
    rw [List.eraseDups_nil]
    exact List.nodup_nil
  | n + 1, a :: l, h => by
    rw [List.eraseDups_cons]
    refine List.nodup_cons.mpr ⟨fun z => ?_, dups_nodup n _ (Nat.le_trans (List.length_filter_le _ _) (Nat.le_of_succ_le_succ h))⟩
    have y := (List.mem_filter.mp (List.mem_eraseDups.mp z)).2
    simp at y
theorem dups_len {α : Type} [BEq α] [LawfulBEq α] {l m : List α} (hn : m.Nodup) (h1 : ∀ x ∈ m, x ∈ l) (h2 : ∀ x ∈ l, x ∈ m) : m.length = l.eraseDups.length :=
  Nat.le_antisymm (hn.length_le_of_subset fun x hx => List.mem_eraseDups.mpr (h1 x hx)) ((dups_nodup _ l (Nat.le_refl _)).length_le_of_subset fun x hx => h2 x (List.mem_eraseDups.mp hx))
def ints' (l : List Nat) : List Int := l.map fun (n : Nat) => (n : Int)
theorem nn_ints' (l : List Nat) : nn (ints' l) = l := by
  unfold nn ints'
  rw [List.map_map]
  exact (List.map_congr_left fun x _ => rfl).trans (List.map_id l)
theorem ints'_inj {l m : List Nat} (h : ints' l = ints' m) : l = m := by
  rw [← nn_ints' l, h, nn_ints' m]
theorem iv_ints' (l : List Nat) : iv l = (ints' l).map V.int := iv_ints l
/-- the set of the tuples has as many as there are different sentences -/
theorem set_len {L ks : List (Addr × List Int)} {ls : List (List Nat)} (hk : ks.map (fun p => p.2) = ls.map ints') (hn : (L.map fun p => p.2).Nodup) (h1 : ∀ p ∈ L, p ∈ ks) (h2 : ∀ p ∈ ks, p.2 ∈ L.map fun p => p.2) : L.length = ls.eraseDups.length := by
  have back : ∀ p ∈ ks, ints' (nn p.2) = p.2 := fun p hp => by
    have q : p.2 ∈ ls.map ints' := by
      rw [← hk]
      exact List.mem_map.mpr ⟨p, hp, rfl⟩
    obtain ⟨l, _, e⟩ := List.mem_map.mp q
    rw [← e, nn_ints']
  have e : L.length = (L.map fun p => nn p.2).length := (List.length_map _).symm
  rw [e]
  refine dups_len ?_ (fun x hx => ?_) fun x hx => ?_
  · refine List.pairwise_map.mpr ((List.pairwise_map.mp hn).imp_of_mem fun {a b} ha hb ne z => ne ?_)
    rw [← back a (h1 a ha), ← back b (h1 b hb), z]
  · obtain ⟨p, hp, rfl⟩ := List.mem_map.mp hx
    have q : p.2 ∈ ls.map ints' := by
      rw [← hk]
      exact List.mem_map.mpr ⟨p, h1 p hp, rfl⟩
    obtain ⟨l, hl, e⟩ := List.mem_map.mp q
    have e2 : nn p.2 = l := ints'_inj (by rw [back p (h1 p hp), e])
    rw [e2]
    exact hl
  · have q : ints' x ∈ ks.map fun p => p.2 := by
      rw [hk]
      exact List.mem_map.mpr ⟨x, hx, rfl⟩
    obtain ⟨p, hp, e⟩ := List.mem_map (l := ks).mp q
    obtain ⟨r, hr, e2⟩ := List.mem_map.mp (h2 p hp)
    refine List.mem_map.mpr ⟨r, hr, ints'_inj ?_⟩
    rw [back r (h1 r hr), e2, e]
/-! ### len of a set of tuples -/
def rLenST (P : Program) (w : World) : List V → Hp → VK → Prop := fun xs H Q => ∃ (a : Addr) (L : List (Addr × List Int)), xs = [V.ref a] ∧ H a = some (SetTO P w a L) ∧ ((L.map fun p => p.2).Nodup → Q (.int (L.length : Nat)) H)
theorem call_lenST {X : Cx} : CallR X (.builtin "len") (rLenST X.prog X.w) := by
  intro pins sh σ H xs us Q inv r h
  obtain ⟨a, L, rfl, ha, q⟩ := h
  have R0 : SetT0 X.prog X.w sh.heap a L := (inv.hok a _ ha).1
  obtain ⟨es, ep, t, ⟨o, ho, hex, hd⟩, h2, h3, h4, h5, h6, h7, h8⟩ := R0.ex
  have hn : es.size = L.length := by
    have hl := congrArg List.length h2
    unfold rowsOf at hl
    rw [Array.length_toList, List.length_map] at hl
    exact hl
  have hf : t.fits es.size = true := by
    have e1 := h3.sz
    rw [List.length_map] at e1
    unfold SetTable.fits; unfold SetTable.fill
    rw [h3.dm, Bool.and_eq_true, beq_iff_eq, decide_eq_true_eq]
    show t.place.size = es.size ∧ (t.place.size + 0 ≤ t.mask)
    omega
  rw [Vals.ref1 r]
  refine call_len_set ho hex hd hf (by rw [hn]; omega) ⟨.int L.length, H, inv.tok _, ⟨_, by rw [hn]⟩, q h4⟩
section
variable {P : Program} {w : World} {K : PySem.W.Frag} {mg : Sg → Option Value} {base : Heap}
/-! ### entry -/
abbrev nEntry : List Sg := ["self", "number", "entry", "ask"]
def spEntry (X : Tx K mg base) : Sp := fun vs H Q _ => ∃ (st : Addr) (n : Nat) (g : Ut03.St), vs = [.ref st, .int (n : Int)] ∧ EntsOf X.CS X.CE X.CA H st g.entries ∧ Good g ∧ LamX.Tabs X.T H ∧ AnsTo X.T H Q (Ut03.step g (.entry n)).2
theorem scEntry : FnScope nEntry ["self", "number"] (defScope sEntry) := ⟨rfl, rfl, rfl, by decide +kernel, rfl, by decide +kernel, by decide +kernel⟩
theorem Tx.gEntry (X : Tx K mg base) : FnOk P w K mg base CX0 2 (X.fa 35) (X.fd 35) ["self", "number"] (spEntry X) := by
  refine X.entryM.F.ok scEntry (fun vs H Q E h => ?_) (fun cdv A outer s H vs Q E hr h => ?_)
  · obtain ⟨st, n, g, rfl, _⟩ := h
    rfl
  · obtain ⟨st, n, g, rfl, hE, hg, hT, k⟩ := h
    obtain ⟨dx, fs, a, es, h1, h2, h3, h4, h5⟩ := id hE
    refine ⟨_, pss_cons (ps_set (i := 2) scEntry.nd rfl (Or.inl rfl) (pe_meth (pv 0) X.S.cl X.ew.m X.gEw hr X.ew.b .nil pass0 (pa_cons (pv 1) pa_nil)))
      (pss_cons (ps_if (pt_cmpR op_isN (pv 2) pe_non (nomark _)) (pss_one (ps_ret (pe_call X.gRef hr rfl X.ref.g X.ref.F.kp X.ref.b .nil pass0 (pa_cons (pe_gint rfl X.R.none) pa_nil)))) pss_nil)
      (pss_cons (ps_set (i := 3) scEntry.nd rfl (Or.inl rfl) (pe_fld (pv 2) rfl))
      (pss_one (ps_ret (pe_op op_cat (pe_op op_cat (pe_lst (pa_cons (pe_fld (pv 3) rfl) (pa_cons (pe_fld (pv 3) rfl) (pa_cons (pe_fld (pv 3) rfl) pa_nil)))) (pe_call X.gTold hr rfl X.told.g X.told.F.kp X.told.b .nil pass0 (pa_cons (pe_fld (pv 3) rfl) pa_nil)))
        (pe_call X.gTold hr rfl X.told.g X.told.F.kp X.told.b .nil pass0 (pa_cons (pe_fld (pv 2) rfl) pa_nil))))))), ?_⟩
    have kk : AnsTo X.T H Q (match g.entries.find? fun e => e.number == n with
      | none => [-2]
      | some e => Ut03.ints ([e.ahead, e.behind, e.client, e.source.length] ++ e.source ++ (e.target.length :: e.target))) := k
    refine ⟨_, rfl, st, dx, fs, rfl, h1, h3, _, rfl, st, n, g.entries, rfl, hE, fun hn => ?_, fun e ea hs he => ?_⟩
    · rw [hn] at kk
      refine ⟨_, rfl, rfl, _, rfl, ?_⟩
      refine ifT rfl ?_
      exact ⟨_, rfl, ref_ans (Same.refl H) hT kk⟩
    · rw [hs] at kk
      dsimp only at kk
      refine ⟨_, rfl, rfl, _, rfl, ?_⟩
      refine ifF rfl ?_
      have hem := List.mem_of_find?_eq_some hs
      have hsl := hg.now.src e hem
      have htl := hg.now.tgt e hem
      obtain ⟨de, qa, t, e1, ⟨dq, sp, q1, q2⟩, e3⟩ := id he
      refine ⟨_, rfl, ea, X.CE, de, _, _, rfl, e1, X.E.cl, X.E.n2, entF_ask _ qa t, ?_⟩
      refine ⟨_, rfl, qa, X.CA, dq, _, _, rfl, q1, X.A.cl, X.A.n1, askF_ahead _ sp, _, rfl, qa, X.CA, dq, _, _, rfl, q1, X.A.cl, X.A.n2, askF_behind _ sp, _, rfl, qa, X.CA, dq, _, _, rfl, q1, X.A.cl, X.A.n3, askF_client _ sp, by show 3 ≤ sizeLine; decide, fun v hv => ?_⟩
      have s1 : Same H (upd H v (.lst [V.int (e.ahead : Int), V.int (e.behind : Int), V.int (e.client : Int)])) := Same.new hv
      refine ⟨_, rfl, qa, X.CA, dq, _, _, rfl, s1 _ _ q1, X.A.cl, X.A.n4, askF_sentence _ sp, sp, e.source, rfl, s1 _ _ q2, by omega, fun H2 y s2 ny d2 => ?_⟩
      refine ⟨v, y, _, _, rfl, rfl, s2 _ _ upd_same, d2, small' (by rw [iv_len]; show 3 + (e.source.length + 1) ≤ _; omega), fun z hz => ?_⟩
      have s3 : Same H2 (upd H2 z (.lst ([V.int (e.ahead : Int), V.int (e.behind : Int), V.int (e.client : Int)] ++ iv (e.source.length :: e.source)))) := Same.new hz
      have s13 := (s1.trans s2).trans s3
      refine ⟨_, rfl, ea, X.CE, de, _, _, rfl, s13 _ _ e1, X.E.cl, X.E.n3, entF_tr _ qa t, t, e.target, rfl, s13 _ _ e3, by omega, fun H4 u s4 nu d4 => ?_⟩
      refine ⟨z, u, _, _, rfl, rfl, s4 _ _ upd_same, d4, small' (by rw [List.length_append, iv_len, iv_len]; show 3 + (e.source.length + 1) + (e.target.length + 1) ≤ _; omega), fun p hp => ?_⟩
      have s14 := s13.trans s4
      refine kk _ p (.of (s14.trans (Same.new hp))) (hT.ext (s14.trans (Same.new hp))) (Nu.ext (.of s14) hp) ?_
      rw [upd_same, ints_map]
      unfold iv
      rw [List.map_append, List.map_append]
      rfl
/-! ### count -/
abbrev nCount : List Sg := ["self", "different", "entry"]
def spCount (X : Tx K mg base) : Sp := fun vs H Q _ => ∃ (st tl b : Addr) (g : Ut03.St), vs = [.ref st] ∧ MemB X tl b H st g ∧ Good g ∧ LamX.Tabs X.T H ∧ AnsTo X.T H Q (Ut03.step g .count).2
theorem scCount : FnScope nCount ["self"] (defScope sCount) := ⟨rfl, rfl, rfl, by decide +kernel, rfl, by decide +kernel, by decide +kernel⟩
def rTup (K : PySem.W.Frag) : List V → Hp → VK → Prop := fun xs H Q => ∃ p ys, xs = [.ref p] ∧ ((SqL K H p ys ∧ ∀ l, H l = none → Q (.ref l) (upd H l (.tup ys))) ∨ (SqT K H p ys ∧ Q (.ref p) H))
def teCount (K : PySem.W.Frag) : TE := tCB (rTup K) (tCons (tFld K (tFld K (tVar 2) "ask") "sentence") tNil)
theorem Tx.gCount (X : Tx K mg base) : FnOk P w K mg base CX0 1 (X.fa 36) (X.fd 36) ["self"] (spCount X) := by
  refine X.countM.F.ok scCount (fun vs H Q E h => ?_) (fun cdv A outer s H vs Q E hr h => ?_)
  · obtain ⟨st, tl, b, g, rfl, _⟩ := h
    rfl
  · obtain ⟨st, tl, b, g, rfl, hM, hg, hT, k⟩ := h
    obtain ⟨dx, a, xs, h1, _, _, _, ⟨es, h4', h5'⟩, _⟩ := id hM
    have h4 := (of_hid h4').2.2
    have h5 : All2 (EntAt X.CE X.CA H) es g.entries := h5'.imp fun e y z => z.same (hid_same tl b H)
    have hu : _ + 64 < cLine := Nat.lt_of_le_of_lt (Nat.add_le_add_left (by decide : 64 ≤ 200) _) (show _ + 200 < cLine from by have q := hr.un; omega)
    refine ⟨_, pss_cons (ps_set (i := 1) scCount.nd rfl (Or.inl rfl) (pe_callB call_lenST (by rfl) X.B.len PySem.boot_len (pa_cons (pe_callTy (cr_setOfT rfl hu) (by rfl) X.B.set (by decide +kernel) (pa_cons
        (pe_lc (own := [("entry", 2)]) (g := gName 2) (tt := tYes) (te := teCount K) rfl scCount.nd (pi_list (pe_fld (pv 0) rfl)) (blkOk_by (own := [("entry", 2)]) (N := nCount) (sc := defScope sCount) (by decide +kernel))
        (fun _ _ _ _ _ => pg_name (i := 2) scCount.nd rfl (Or.inl rfl)) (fun _ _ _ _ _ => pts_nil) (fun _ _ _ _ _ => by exact pe_callTy call_tuple_of (by rfl) X.B.tuple (by decide +kernel) (pa_cons (pe_fld (pe_fld (pv 2) rfl) rfl) pa_nil))) pa_nil)) pa_nil)))
      (pss_one (ps_ret (pe_lst (pa_cons (pe_callB call_len_seq (by rfl) X.B.len PySem.boot_len (pa_cons (pe_fld (pv 0) rfl) pa_nil)) (pa_cons (pv 1) (pa_cons (pe_fld (pv 0) rfl) pa_nil)))))), ?_⟩
    have kk : AnsTo X.T H Q (Ut03.ints [g.entries.length, (g.entries.map fun e => e.source).eraseDups.length, g.given]) := k
    refine ⟨_, rfl, st, X.CS, dx, _, _, rfl, h1, X.S.cl, X.S.n1, stF_ents _ _ _, a, rfl, ⟨_, SqL.of h4⟩, fun D1 hD => lc_list (K := K) (a := a) (xs := es.map V.ref) (fun i H1 => ∃ ks : List (Addr × List Int), Same H H1 ∧ H1 D1 = some (.lst (ks.map fun p => V.ref p.1)) ∧ (∀ p ∈ ks, H1 p.1 = some (.tup (p.2.map V.int))) ∧ ks.length = i ∧ ks.map (fun p => p.2) = ((g.entries.take i).map fun e => e.source).map ints') ?_ (fun i H1 _ ⟨_, s1, _⟩ => s1.seq (SqL.of h4)) ?_ ?_⟩
    · exact ⟨[], Same.new hD, upd_same, fun p hp => absurd hp (by simp), rfl, rfl⟩
    · rintro i v H1 hx ⟨ks, s1, d1, t1, l1, e1⟩
      obtain ⟨eb, en, heb, rfl, hen, hent⟩ := ents_walk h5 hx
      have hi : i < es.length := (List.getElem?_eq_some_iff.mp heb).1
      have hgl := hg.now.len
      have hel := h5.len
      obtain ⟨de, qa, t, e2, ⟨dq, sp, q1, q2⟩, e3⟩ := id hent
      refine ⟨rfl, _, rfl, eb, X.CE, de, _, _, rfl, s1 _ _ e2, X.E.cl, X.E.n2, entF_ask _ qa t, qa, X.CA, dq, _, _, rfl, s1 _ _ q1, X.A.cl, X.A.n4, askF_sentence _ sp, sp, _, rfl, .inl ⟨SqL.of (s1 _ _ q2), fun l hl => ?_⟩⟩
      have s2 : Same H1 (upd H1 l (.tup (iv en.source))) := Same.new hl
      refine ⟨_, s2 _ _ d1, small (by rw [List.length_map]; omega), ks ++ [(l, ints' en.source)], Same.over (s1.trans s2) hD, ?_, ?_, ?_, ?_⟩
      · rw [upd_same, List.map_append]
        rfl
      · intro p hp
        have np : ∀ {p : Addr × List Int} {x : List V}, upd H1 l (.tup (iv en.source)) p.1 = some (.tup x) → p.1 ≠ D1 := fun e => ne_of e (s2 _ _ d1) (by intro z; cases z)
        rcases List.mem_append.mp hp with qo | q
        · have z := s2 _ _ (t1 p qo)
          rw [upd_ne (np z)]
          exact z
        · rw [List.mem_singleton.mp q]
          have z : upd H1 l (.tup (iv en.source)) l = some (.tup ((ints' en.source).map V.int)) := by rw [upd_same, iv_ints']
          rw [upd_ne (np (p := (l, ints' en.source)) z)]
          exact z
      · rw [List.length_append, List.length_singleton, l1]
      · rw [take_more hen, List.map_append, List.map_append, List.map_append, e1]
        rfl
    · rintro H1 ⟨ks, s1, d1, t1, l1, e1⟩
      have hgl := hg.now.len
      have hel := h5.len
      rw [List.length_map, hel, List.take_length] at e1
      rw [List.length_map] at l1
      refine ⟨D1, ks, rfl, SqL.of d1, fun p hp => SqT.of (t1 p hp), by omega, fun u L hu1 c1 c2 => ?_⟩
      refine ⟨u, L, rfl, upd_same, fun nd => ?_⟩
      have s2 : Same H1 (upd H1 u (SetTO P w u L)) := Same.new hu1
      have s12 := s1.trans s2
      rw [set_len e1 nd c1 c2]
      refine ⟨_, rfl, st, X.CS, dx, _, _, rfl, s12 _ _ h1, X.S.cl, X.S.n1, stF_ents _ _ _, a, _, rfl, .inl (SqL.of (s12 _ _ h4)), _, rfl, _, rfl, st, X.CS, dx, _, _, rfl, s12 _ _ h1, X.S.cl, X.S.n2, stF_next _ _ _, by show 3 ≤ sizeLine; decide, fun p hp => ?_⟩
      refine kk _ p (.of (s12.trans (Same.new hp))) (hT.ext (s12.trans (Same.new hp))) (Nu.ext (.of s12) hp) ?_
      rw [upd_same, List.length_map, hel]
      rfl
end
end TM

set_option Elab.async false
set_option linter.all false
set_option maxRecDepth 100000
set_option maxHeartbeats 2000000
namespace TM
open PySem PySem.Spec PyProof.Rows L2
theorem ext_over {H H1 : Hp} {D : Addr} {o : HO} (s : LamX.ExtN H H1) (h : H D = none) : LamX.ExtN H (upd H1 D o) := fun b u e n => by
  rw [upd_ne (ne_of_none e h)]
  exact s b u e n
theorem Nu.ne {H : Hp} {r D : Addr} {xs : List V} (n : Nu H r) (h : H D = some (.lst xs)) : r ≠ D := fun z => by
  obtain ⟨ps, e⟩ := n _ (by rw [z]; exact h)
  cases e
theorem asks_walk {CA : Addr} {H : Hp} {qs : List Addr} {l : List Ut03.Ask} {i : Nat} {x : V} (A : All2 (AskAt CA H) qs l) (h : (qs.map V.ref)[i]? = some x) : ∃ a y, qs[i]? = some a ∧ x = V.ref a ∧ l[i]? = some y ∧ AskAt CA H a y := by
  rw [List.getElem?_map] at h
  cases z : qs[i]? with
  | none =>
    rw [z] at h
    cases h
  | some a =>
    rw [z] at h
    obtain ⟨y, hy, r⟩ := A.get z
    exact ⟨a, y, rfl, (Option.some.inj h).symm, hy, r⟩
theorem any_walk {R : Addr → Nat × Nat → Prop} {qs : List Addr} {l : List (Nat × Nat)} {i : Nat} {x : V} (A : All2 R qs l) (h : (qs.map V.ref)[i]? = some x) : ∃ a y, qs[i]? = some a ∧ x = V.ref a ∧ l[i]? = some y ∧ R a y := by
  rw [List.getElem?_map] at h
  cases z : qs[i]? with
  | none =>
    rw [z] at h
    cases h
  | some a =>
    rw [z] at h
    obtain ⟨y, hy, r⟩ := A.get z
    exact ⟨a, y, rfl, (Option.some.inj h).symm, hy, r⟩
theorem flatP_len : ∀ l : List (Nat × Nat), (l.flatMap fun y => [y.1, y.2]).length = 2 * l.length
  | [] => rfl
  | x :: l => by
    rw [List.flatMap_cons, List.length_append, flatP_len l, List.length_cons]
    show 2 + 2 * l.length = 2 * Nat.succ l.length
    omega
section
variable {P : Program} {w : World} {K : PySem.W.Frag} {mg : Sg → Option Value} {base : Heap}
/-! ### first_told -/
abbrev nFirstT : List Sg := ["entries", "least", "ask", "hits"]
def spFirstT (X : Tx K mg base) : Sp := fun vs H Q _ => ∃ (a b : Addr) (least : Nat) (es : List Addr) (l : List Ut03.Entry) (q : Ut03.Ask), vs = [.ref a, .int (least : Int), .ref b] ∧ SqL K H a (es.map V.ref) ∧ All2 (EntAt X.CE X.CA H) es l ∧ AskAt X.CA H b q ∧
  l.length ≤ 1000 ∧ (∀ e ∈ l, e.source.length ≤ 1000) ∧ q.source.length ≤ 1000 ∧ (l.map fun e => e.number).Nodup ∧ LamX.Tabs X.T H ∧
  ∀ (H' : Hp) (r : Addr), LamX.ExtN H H' → LamX.Tabs X.T H' → Nu H r → H' r = some (.lst (iv [(fill1 (foundH l q least)).1, (fill1 (foundH l q least)).2])) → Q (.ref r) H'
theorem scFirstT : FnScope nFirstT pHits (defScope sFirstT) := ⟨rfl, rfl, rfl, by decide +kernel, rfl, by decide +kernel, by decide +kernel⟩
theorem Tx.gFirstT (X : Tx K mg base) : FnOk P w K mg base CX0 7 (X.fa 20) (X.fd 20) pHits (spFirstT X) := by
  refine X.firstT.F.ok scFirstT (fun vs H Q E h => ?_) (fun cdv A outer s H vs Q E hr h => ?_)
  · obtain ⟨a, b, least, es, l, q, rfl, _⟩ := h
    rfl
  · obtain ⟨a, b, least, es, l, q, rfl, hS, hE, hQ, hl, hls, hlq, hnd, hT, k⟩ := h
    refine ⟨_, pss_cons (ps_set (i := 3) scFirstT.nd rfl (Or.inl rfl) (pe_call X.gHits hr rfl X.hits.g X.hits.F.kp X.hits.b .nil pass0 (pa_cons (pv 0) (pa_cons (pv 1) (pa_cons (pv 2) pa_nil)))))
      (pss_cons (ps_if (pt_cmpR op_eq (pe_callB call_len_seq (by rfl) X.B.len PySem.boot_len (pa_cons (pv 3) pa_nil)) pe_int (nomark _)) (pss_one (ps_ret (pe_lst (pa_cons pe_int (pa_cons pe_int pa_nil))))) pss_nil)
      (pss_one (ps_ret (pe_lst (pa_cons (pe_fld (pe_ix ix_list (pv 3) pe_int (fun _ _ => rfl)) rfl) (pa_cons (pe_fld (pe_ix ix_list (pv 3) pe_int (fun _ _ => rfl)) rfl) pa_nil)))))), ?_⟩
    refine ⟨_, rfl, _, rfl, _, rfl, a, b, least, es, l, q, rfl, hS, hE, hQ, hl, hls, hlq, hnd, hT, fun H2 r ls x2 T2 d2 A2 => ?_⟩
    refine ⟨_, rfl, r, _, rfl, .inl (SqL.of d2), rfl, _, rfl, ?_⟩
    cases ef : foundH l q least with
    | nil =>
      rw [ef] at A2 k
      cases A2
      refine ifT rfl ?_
      exact ⟨by show 2 ≤ sizeLine; decide, fun p hp => k _ p (x2.trans (.of (Same.new hp))) (T2.ext (Same.new hp)) (Nu.ext x2 hp) upd_same⟩
    | cons x xs =>
      rw [ef] at A2 k
      obtain ⟨u, ls', rfl, ⟨dh, t, g1, g2⟩⟩ : ∃ u ls', ls = u :: ls' ∧ HitAt X.CH H2 u x := by
        cases A2 with
        | cons r t => exact ⟨_, _, rfl, r⟩
      refine ifF ?_ ?_
      · rw [vint_eq, List.length_map, List.length_cons]
        exact decide_eq_false (fun z => by omega)
      · exact ⟨_, rfl, r, _, _, _, rfl, rfl, SqL.of d2, atI_nat (j := 0) rfl, u, X.CH, dh, _, _, rfl, g1, X.Hc.cl, X.Hc.n1, hitF_score _ _ t, _, rfl, r, _, _, _, rfl, rfl, SqL.of d2, atI_nat (j := 0) rfl, u, X.CH, dh, _, _, rfl, g1, X.Hc.cl, X.Hc.n2, hitF_number _ _ t, by show 2 ≤ sizeLine; decide,
          fun p hp => k _ p (x2.trans (.of (Same.new hp))) (T2.ext (Same.new hp)) (Nu.ext x2 hp) upd_same⟩
/-! ### fill -/
abbrev nFill : List Sg := ["self", "least", "asks", "firsts", "answer", "first", "ask"]
def spFill (X : Tx K mg base) : Sp := fun vs H Q _ => ∃ (st b : Addr) (least : Nat) (g : Ut03.St) (qs : List Addr) (l : List Ut03.Ask), vs = [.ref st, .int (least : Int), .ref b] ∧ EntsOf X.CS X.CE X.CA H st g.entries ∧ Good g ∧ H b = some (.lst (qs.map V.ref)) ∧ All2 (AskAt X.CA H) qs l ∧
  l.length ≤ 1000 ∧ (∀ q ∈ l, q.source.length ≤ 1000) ∧ LamX.Tabs X.T H ∧ AnsTo X.T H Q (Ut03.step g (.fill least l)).2
theorem scFill : FnScope nFill ["self", "least", "asks"] (defScope sFill) := ⟨rfl, rfl, rfl, by decide +kernel, rfl, by decide +kernel, by decide +kernel⟩
def teFillA (CA : Addr) : TE := tCall (spIsAsk CA) [] E0 (tCons (tVar 6) tNil)
def teFillF (X : Tx K mg base) : TE := tCall (spFirstT X) [] E0 (tCons (tFld K (tVar 0) "entries") (tCons (tVar 1) (tCons (tVar 6) tNil)))
def ttFill (K : PySem.W.Frag) : TT := tTest (tOp (rI0 fun i j => V.bl (decide (j < i))) (tOp (rIxL K) (tVar 5) (tC (.int 0))) (tC (.int 0)))
theorem all_askOk (l : List Ut03.Ask) : l.all Ut03.askOk = (l.map Ut03.askOk).all id := by
  rw [List.all_map]
  rfl
theorem Tx.gFill (X : Tx K mg base) : FnOk P w K mg base CX0 8 (X.fa 34) (X.fd 34) ["self", "least", "asks"] (spFill X) := by
  refine X.fillM.F.ok scFill (fun vs H Q E h => ?_) (fun cdv A outer s H vs Q E hr h => ?_)
  · obtain ⟨st, b, least, g, qs, l, rfl, _⟩ := h
    rfl
  · obtain ⟨st, b, least, g, qs, l, rfl, hE, hg, hb, hQ, hl, hlq, hT, k⟩ := h
    obtain ⟨dx, fs, a, es, h1, h2, h3, h4, h5⟩ := id hE
    have hr3 : Room 3 _ := hr.mono (by decide)
    have hr1 : Room 1 _ := hr.mono (by decide)
    refine ⟨_, pss_cons (ps_if (PW.pt (pw_or (pt_cmpR op_gt (pv 1) (pe_gint rfl X.G.hs) (nomark _)) (pw_or (pt_cmpR op_gt (pe_callB call_len_seq (by rfl) X.B.len PySem.boot_len (pa_cons (pv 2) pa_nil)) (pe_gint rfl X.R.asks) (nomark _))
          (pw_or1 (pt_not (pt_val (pe_callB (cr_all rfl) (by rfl) X.B.all (by decide +kernel) (pa_cons (pe_lc (own := [("ask", 6)]) (g := gName 6) (tt := tYes) (te := teFillA X.CA) rfl scFill.nd (pi_list (pv 2)) (blkOk_by (own := [("ask", 6)]) (N := nFill) (sc := defScope sFill) (by decide +kernel))
            (fun _ _ _ _ _ => pg_name (i := 6) scFill.nd rfl (Or.inl rfl)) (fun _ _ _ _ _ => pts_nil) (fun _ _ _ _ _ => by exact pe_call X.gIsAsk hr3 rfl X.isAsk.g X.isAsk.F.kp X.isAsk.b .nil pass0 (by exact pa_cons (pv 6) pa_nil))) pa_nil))))))))
        (pss_one (ps_ret (pe_call X.gRef hr1 rfl X.ref.g X.ref.F.kp X.ref.b .nil pass0 (pa_cons (pe_gint rfl X.R.wrong) pa_nil)))) pss_nil)
      (pss_cons (ps_setLc (i := 3) (own := [("ask", 6)]) (g := gName 6) (tt := tYes) (te := teFillF X) rfl scFill.nd rfl rfl (sw_true rfl rfl rfl (by decide +kernel)) (pi_list (pv 2)) (blkOk_by (own := [("ask", 6)]) (N := nFill) (sc := defScope sFill) (by decide +kernel))
        (fun _ _ _ _ _ => pg_name (i := 6) scFill.nd rfl (Or.inl rfl)) (fun _ _ _ _ _ => pts_nil) (fun _ _ _ _ _ => by exact pe_call X.gFirstT hr rfl X.firstT.g X.firstT.F.kp X.firstT.b .nil pass0 (by exact pa_cons (pe_fld (pv 0) rfl) (pa_cons (pv 1) (pa_cons (pv 6) pa_nil)))))
      (pss_cons (ps_set (i := 4) scFill.nd rfl (Or.inl rfl) (pe_lst (pa_cons (pe_callB call_len_seq (by rfl) X.B.len PySem.boot_len (pa_cons (pe_lc (own := [("first", 5)]) (g := gName 5) (tt := ttFill K) rfl scFill.nd (pi_list (pv 3)) (blkOk_by (own := [("first", 5)]) (N := nFill) (sc := defScope sFill) (by decide +kernel))
          (fun _ _ _ _ _ => pg_name (i := 5) scFill.nd rfl (Or.inl rfl)) (fun _ _ _ _ _ => pts_one (by exact pt_cmpR op_gt (pe_ix ix_list (pv 5) pe_int (fun _ _ => rfl)) pe_int (nomark _))) (fun _ _ _ _ _ => pv 5)) pa_nil)) pa_nil)))
      (pss_cons (ps_for PassesOwn.never rfl (pi_list (pv 3)) (pg_name (i := 5) scFill.nd rfl (Or.inl rfl))
        (pss_one (ps_expr (pe_bm PySem.F.plainAttrs_list PySem.F.slot_list_extend PySem.F.type_list_extend mt_extend (pv 4) (pa_cons (pv 5) pa_nil)))))
      (pss_one (ps_ret (pv 4)))))), ?_⟩
    have kk : AnsTo X.T H Q (if 10 < l.length ∨ l.all Ut03.askOk = false ∨ 102 < least then [-1] else
      Ut03.ints (((Ut03.filled g.entries least l).filter fun y => y.1 != 0).length :: (Ut03.filled g.entries least l).flatMap fun y => [y.1, y.2])) := k
    clear k
    have hql := hQ.len
    refine ⟨_, rfl, _, _, rfl, rfl, _, rfl, ?_⟩
    refine ite2 (fun c => ?_) (fun c => ?_)
    · have c' : 102 < least := by have z := of_decide_eq_true c; omega
      rw [if_pos (.inr (.inr c'))] at kk
      refine iteT ?_
      exact ⟨_, rfl, ref_ans (Same.refl H) hT kk⟩
    have c1 : ¬ 102 < least := fun z => c (decide_eq_true (by omega))
    clear c
    refine ⟨_, rfl, b, _, rfl, .inl (SqL.of hb), _, _, rfl, rfl, _, rfl, ?_⟩
    refine ite2 (fun c => ?_) (fun c => ?_)
    · have c' : 10 < l.length := by
        have z := of_decide_eq_true c
        rw [List.length_map, hql] at z
        omega
      rw [if_pos (.inl c')] at kk
      refine iteT ?_
      exact ⟨_, rfl, ref_ans (Same.refl H) hT kk⟩
    have c2 : ¬ 10 < l.length := fun z => c (decide_eq_true (by rw [List.length_map, hql]; omega))
    clear c
    refine ⟨_, rfl, b, rfl, ⟨_, SqL.of hb⟩, fun D hD => lc_list (K := K) (a := b) (xs := qs.map V.ref) (fun i H1 => Same H H1 ∧ H1 D = some (.lst ((l.take i).map fun q => V.bl (Ut03.askOk q)))) ⟨Same.new hD, upd_same⟩ (fun i H1 _ p => p.1.seq (SqL.of hb)) ?_ ?_⟩
    · rintro i x H1 hx ⟨s1, d1⟩
      obtain ⟨qa, q, hqa, rfl, hq, hask⟩ := asks_walk hQ hx
      refine ⟨rfl, _, rfl, qa, q, rfl, hask.same s1, hlq q (List.mem_of_getElem? hq), fun H2 s2 => ?_⟩
      refine ⟨_, s2 _ _ d1, small (by rw [List.length_map, List.length_take]; omega), Same.over (s1.trans s2) hD, ?_⟩
      rw [upd_same, take_more hq, List.map_append]
      rfl
    rintro H1 ⟨s1, d1⟩
    rw [List.length_map, hql, List.take_length] at d1
    refine ⟨D, l.map Ut03.askOk, rfl, SqL.of (by rw [List.map_map]; exact d1), _, rfl, ?_⟩
    rw [← all_askOk]
    cases c3 : l.all Ut03.askOk with
    | false =>
      rw [if_pos (.inr (.inl c3))] at kk
      refine ifT rfl ?_
      exact ⟨_, rfl, ref_ans s1 hT kk⟩
    | true =>
    rw [if_neg (fun z => z.elim c2 fun z => z.elim (fun y => by rw [c3] at y; cases y) c1), filled_hits] at kk
    refine ifF rfl ?_
    have hT1 := hT.ext s1
    have hb1 := s1 _ _ hb
    have h11 := s1 _ _ h1
    have h41 := s1 _ _ h4
    have h51 : All2 (EntAt X.CE X.CA H1) es g.entries := h5.imp fun e y z => z.same s1
    have hQ1 : All2 (AskAt X.CA H1) qs l := hQ.imp fun e y z => z.same s1
    refine ⟨_, rfl, b, rfl, ⟨_, SqL.of hb1⟩, fun D2 hD2 => lc_list (K := K) (a := b) (xs := qs.map V.ref) (fun i H2 => ∃ rs : List Addr, LamX.ExtN H1 H2 ∧ LamX.Tabs X.T H2 ∧ H2 D2 = some (.lst (rs.map V.ref)) ∧ rs.length = i ∧
      All2 (fun r (y : Nat × Nat) => r ≠ D2 ∧ H2 r = some (.lst (iv [y.1, y.2]))) rs ((l.take i).map fun q => fill1 (foundH g.entries q least))) ?_ (fun i H2 _ ⟨_, x2, _⟩ => SqL.of (x2 _ _ hb1 (fun _ z => by cases z))) ?_ ?_⟩
    · exact ⟨[], .of (Same.new hD2), hT1.ext (Same.new hD2), upd_same, rfl, .nil⟩
    · rintro i x H2 hx ⟨rs, x2, T2, d2, l2, A2⟩
      obtain ⟨qa, q, hqa, rfl, hq, hask⟩ := asks_walk hQ1 hx
      have hi : i < qs.length := (List.getElem?_eq_some_iff.mp hqa).1
      refine ⟨rfl, _, rfl, st, X.CS, dx, _, _, rfl, x2 _ _ h11 (fun _ z => by cases z), X.S.cl, X.S.n1, h2, _, rfl, _, rfl, a, qa, least, es, g.entries, q, rfl, SqL.of (x2 _ _ h41 (fun _ z => by cases z)), h51.imp fun e y z => z.ext x2, hask.ext x2, Nat.le_trans hg.now.len (by decide), fun e he => Nat.le_trans (hg.now.src e he) (by decide), hlq q (List.mem_of_getElem? hq), hg.now.nd, T2, fun H3 r x3 T3 nr d3 => ?_⟩
      have d2' := x3 _ _ d2 (fun _ z => by cases z)
      have nrD := nr.ne d2
      refine ⟨_, d2', small (by rw [List.length_map]; omega), rs ++ [r], ext_over (x2.trans x3) hD2, (Tk.lst d2').tabs T3, ?_, ?_, ?_⟩
      · rw [upd_same, List.map_append]
        rfl
      · rw [List.length_append, List.length_singleton, l2]
      · rw [take_more hq, List.map_append]
        refine All2.snoc (R := fun r (y : Nat × Nat) => r ≠ D2 ∧ upd H3 D2 _ r = some (.lst (iv [y.1, y.2]))) ⟨nrD, (upd_ne nrD).trans d3⟩ (A2.imp fun r' y z => ⟨z.1, ?_⟩)
        rw [upd_ne z.1]
        exact x3 _ _ z.2 (fun _ z => by cases z)
    rintro H2 ⟨rs, x2, T2, d2, l2, A2⟩
    rw [List.length_map, hql, List.take_length] at A2
    rw [List.length_map] at l2
    generalize ef : (l.map fun q => fill1 (foundH g.entries q least)) = F at A2 kk
    have hFl : F.length = l.length := by rw [← ef, List.length_map]
    have x02 : LamX.ExtN H H2 := (LamX.ExtN.of s1).trans x2
    refine ⟨_, rfl, D2, rfl, ⟨_, SqL.of d2⟩, fun D3 hD3 => lc_list (K := K) (a := D2) (xs := rs.map V.ref) (fun i H3 => ∃ ns : List Addr, Same H2 H3 ∧ H3 D3 = some (.lst (ns.map V.ref)) ∧ ns.length = ((F.take i).filter fun y => y.1 != 0).length) ?_ (fun i H3 _ ⟨_, s3, _⟩ => s3.seq (SqL.of d2)) ?_ ?_⟩
    · exact ⟨[], Same.new hD3, upd_same, rfl⟩
    · rintro i x H3 hx ⟨ns, s3, d3, l3⟩
      obtain ⟨r, y, hr', rfl, hy, hry⟩ := any_walk A2 hx
      have hi : i < F.length := (List.getElem?_eq_some_iff.mp hy).1
      have ey := take_more hy
      have hnl : ns.length ≤ 10 := by
        rw [l3]
        refine Nat.le_trans (List.length_filter_le _ _) ?_
        rw [List.length_take]
        omega
      refine ⟨rfl, _, rfl, r, _, _, _, rfl, rfl, SqL.of (s3 _ _ hry.2), atI_nat (j := 0) rfl, _, _, rfl, rfl, _, rfl, ?_⟩
      refine ite2 (fun c => ?_) (fun c => ?_)
      · have c' : y.1 ≠ 0 := by have z := of_decide_eq_true c; omega
        refine ⟨_, rfl, _, d3, small (by rw [List.length_map]; omega), ns ++ [r], Same.over s3 hD3, ?_, ?_⟩
        · rw [upd_same, List.map_append]
          rfl
        · rw [ey, List.filter_append, List.length_append, List.length_append, l3, List.filter_cons_of_pos (by simpa using c')]
          rfl
      · have c' : y.1 = 0 := by
          by_cases z : y.1 = 0
          · exact z
          · exact absurd (decide_eq_true (by omega)) c
        refine ⟨ns, s3, d3, ?_⟩
        rw [ey, List.filter_append, List.length_append, l3, List.filter_cons_of_neg (by simpa using c')]
        rfl
    rintro H3 ⟨ns, s3, d3, l3⟩
    have hrl := A2.len
    rw [List.length_map, hrl, List.take_length] at l3
    refine ⟨D3, _, rfl, .inl (SqL.of d3), by show 1 ≤ sizeLine; decide, fun p hp => ?_⟩
    have s4 : Same H3 (upd H3 p (.lst [V.int (((ns.map V.ref).length : Nat) : Int)])) := Same.new hp
    have d23 := s3 _ _ d2
    refine ⟨_, rfl, D2, rfl, ⟨_, SqL.of (s4 _ _ d23)⟩, for_list (K := K) (a := D2) (xs := rs.map V.ref) (fun i σ H4 => ∃ v5 : Option V, σ = [some (.ref st), some (.int (least : Int)), some (.ref b), some (.ref D2), some (.ref p), v5, none] ∧ Same H3 H4 ∧
      H4 p = some (.lst (V.int ((ns.length : Nat) : Int) :: iv ((F.take i).flatMap fun y => [y.1, y.2])))) ?_ (fun i σ H4 _ ⟨_, _, s5, _⟩ => s5.seq (SqL.of d23)) ?_ ?_⟩
    · refine ⟨none, rfl, s4, ?_⟩
      rw [upd_same, List.length_map]
      rfl
    · rintro i x σ H4 hx ⟨v5, rfl, s5, d5⟩
      obtain ⟨r, y, hr', rfl, hy, hry⟩ := any_walk A2 hx
      have hi : i < F.length := (List.getElem?_eq_some_iff.mp hy).1
      refine ⟨_, rfl, .inl ⟨rfl, _, SqL.of d5⟩, _, rfl, p, r, _, _, rfl, rfl, d5, s5 _ _ (s3 _ _ hry.2), ?_, ?_⟩
      · refine small' ?_
        rw [List.length_cons, iv_len, iv_len]
        have q1 := flatP_len (F.take i)
        rw [List.length_take] at q1
        show _ + 2 ≤ _
        omega
      · refine ⟨_, rfl, Same.over s5 hp, ?_⟩
        rw [upd_same, take_more hy, List.flatMap_append]
        unfold iv
        rw [List.map_append]
        rfl
    · rintro σ H4 ⟨v5, rfl, s5, d5⟩
      rw [List.length_map, hrl, List.take_length] at d5
      have s35 := s3.trans s5
      refine ⟨_, rfl, kk H4 p (x02.trans (.of s35)) (T2.ext s35) (Nu.ext (x02.trans (.of s3)) hp) ?_⟩
      rw [d5, ints_map, l3]
      rfl
end
end TM

set_option Elab.async false
set_option linter.all false
set_option maxRecDepth 100000
set_option maxHeartbeats 2000000
namespace TM
open PySem PySem.Spec PyProof.Rows L2
/-! ### What is read from a place on -/
theorem drop_get {ns : List Nat} {n k : Nat} {l : List Nat} (h : ns.drop n = l) : ns[n + k]? = l[k]? := by
  rw [← h, List.getElem?_drop]
theorem drop_more {ns : List Nat} {n : Nat} {l r : List Nat} (h : ns.drop n = l ++ r) (k : Nat) (hk : k = l.length) : ns.drop (n + k) = r := by
  rw [← List.drop_drop, h, hk, List.drop_left]
theorem drop_len {ns : List Nat} {n : Nat} {l r : List Nat} (h : ns.drop n = l ++ r) (hl : l ≠ []) : n + l.length ≤ ns.length := by
  have el := congrArg List.length h
  rw [List.length_drop, List.length_append] at el
  have q : 0 < l.length := List.length_pos_iff.mpr hl
  omega
section
variable {P : Program} {w : World} {K : PySem.W.Frag} {mg : Sg → Option Value} {base : Heap}
theorem use_rdN {C r a : Addr} {n x : Nat} {ns rest : List Nat} {H : Hp} {Q : VK} {E : XK} (hR : RdAt C H r a n) (hS : SqL K H a (iv ns)) (hd : ns.drop n = x :: rest)
    (k : ∀ H', RdAt C H' r a (n + 1) → ns.drop (n + 1) = rest → But r H H' → Q (.int (x : Int)) H') : spRdN K C [.ref r] H Q E :=
  ⟨r, a, n, x, ns, rfl, hR, hS, drop_get (k := 0) hd, fun H' R1 b1 => k H' R1 (drop_more (l := [x]) hd 1 rfl) b1⟩
theorem use_rdR {C r a : Addr} {n : Nat} {ns s rest : List Nat} {H : Hp} {Q : VK} {E : XK} (hR : RdAt C H r a n) (hS : SqL K H a (iv ns)) (hd : ns.drop n = encS s ++ rest)
    (k : ∀ H' p n', RdAt C H' r a n' → ns.drop n' = rest → But r H H' → H p = none → H' p = some (.lst (iv s)) → Q (.ref p) H') : spRdR K C [.ref r] H Q E := by
  have hl := drop_len hd (by unfold encS; simp)
  have hl' : n + (s.length + 1) ≤ ns.length := hl
  have e1 : ns.drop (n + 1) = s ++ rest := drop_more (l := [s.length]) hd 1 rfl
  refine ⟨r, a, n, s.length, ns, rfl, hR, hS, drop_get (k := 0) hd, by omega, fun H' p R1 b1 np d1 => ?_⟩
  rw [e1, List.take_left] at d1
  exact k H' p _ R1 (drop_more e1 _ rfl) b1 np d1
theorem use_rdA {C CA r a : Addr} {n : Nat} {ns rest : List Nat} {q : Ut03.Ask} {H : Hp} {Q : VK} {E : XK} (hR : RdAt C H r a n) (hS : SqL K H a (iv ns)) (hd : ns.drop n = encQ q ++ rest)
    (k : ∀ H' p n', RdAt C H' r a n' → ns.drop n' = rest → But r H H' → AskNew CA H H' p q → Q (.ref p) H') : spRdA K C CA [.ref r] H Q E := by
  have hl := drop_len hd (by unfold encQ; simp)
  have hl' : n + (q.source.length + 1 + 1 + 1 + 1) ≤ ns.length := hl
  have e1 : ns.drop (n + 4) = q.source ++ rest := drop_more (l := [q.ahead, q.behind, q.client, q.source.length]) hd 4 rfl
  refine ⟨r, a, n, q.ahead, q.behind, q.client, q.source.length, ns, rfl, hR, hS, drop_get (k := 0) hd, drop_get (k := 1) hd, drop_get (k := 2) hd, drop_get (k := 3) hd, by omega, fun H' p R1 b1 aN => ?_⟩
  rw [e1, List.take_left] at aN
  exact k H' p _ R1 (drop_more e1 _ rfl) b1 aN
/-! ### asks_in -/
abbrev nAsksIn : List Sg := ["row", "many", "reader", "turn"]
def spAsksIn (X : Tx K mg base) : Sp := fun vs H Q _ => ∃ (a : Addr) (l : List Ut03.Ask), vs = [.ref a, .int ((l.length : Nat) : Int)] ∧ SqL K H a (iv (encQs l)) ∧ l.length ≤ 1000 ∧
  ∀ (H' : Hp) (p : Addr) (qs : List Addr), Same H H' → H' p = some (.lst (qs.map V.ref)) → All2 (AskAt X.CA H') qs l → Q (.ref p) H'
theorem scAsksIn : FnScope nAsksIn ["row", "many"] (defScope sAsksIn) := ⟨rfl, rfl, rfl, by decide +kernel, rfl, by decide +kernel, by decide +kernel⟩
def teAsksIn (X : Tx K mg base) : TE := tMeth X.CR "read_ask" (spRdA K X.CR X.CA) [] E0 (tVar 2) tNil
theorem encQs_at {l : List Ut03.Ask} {i : Nat} {q : Ut03.Ask} (h : l[i]? = some q) : encQs (l.drop i) = encQ q ++ encQs (l.drop (i + 1)) := by
  obtain ⟨hi, eq⟩ := List.getElem?_eq_some_iff.mp h
  rw [List.drop_eq_getElem_cons hi, eq]
  rfl
theorem ask_rd {C d p C' d' a' : Addr} {q : Ut03.Ask} {n' : Nat} : HO.ins C d (askF q p) ≠ .ins C' d' (rdF a' n') := fun z => by
  injection z with _ _ z
  cases congrArg List.length z
theorem Tx.gAsksIn (X : Tx K mg base) : FnOk P w K mg base CX0 4 (X.fa 26) (X.fd 26) ["row", "many"] (spAsksIn X) := by
  refine X.asksIn.F.ok scAsksIn (fun vs H Q E h => ?_) (fun cdv A outer s H vs Q E hr h => ?_)
  · obtain ⟨a, l, rfl, _⟩ := h
    rfl
  · obtain ⟨a, l, rfl, hS, hl, k⟩ := h
    have hr2 : Room 2 _ := hr.mono (by decide)
    refine ⟨_, pss_cons (ps_set (i := 2) scAsksIn.nd rfl (Or.inr rfl) (pe_make X.Rd.M X.gRdI hr2 rfl X.Rd.g X.Rd.b .nil pass0 (pa_cons (pv 0) pa_nil)))
      (pss_one (ps_ret (pe_lc (own := [("turn", 3)]) (g := gName 3) (tt := tYes) (te := teAsksIn X) rfl scAsksIn.nd (pi_range1 rfl X.B.range (pa_cons (pv 1) pa_nil)) (blkOk_by (own := [("turn", 3)]) (N := nAsksIn) (sc := defScope sAsksIn) (by decide +kernel))
        (fun _ _ _ _ _ => pg_name (i := 3) scAsksIn.nd rfl (Or.inl rfl)) (fun _ _ _ _ _ => pts_nil) (fun _ _ _ _ _ => by exact pe_meth0 (pv 2) X.Rd.cl X.rdA.m X.gRdA hr X.rdA.b .nil pass0)))), ?_⟩
    refine ⟨_, rfl, ?_⟩
    intro r dr nr nd ne
    refine ⟨r, dr, a, rfl, upd_same, fun H0 m1 m2 => ⟨rfl, ?_⟩⟩
    have s0 : Same H H0 := Same.made nr nd m2
    refine ⟨_, rfl, _, rfl, by omega, by omega, fun D hD => lc_range (lo := 0) (n := l.length) (fun i H1 => ∃ (n : Nat) (qs : List Addr), Same H H1 ∧ RdAt X.CR H1 r a n ∧ (encQs l).drop n = encQs (l.drop i) ∧ H1 D = some (.lst (qs.map V.ref)) ∧ qs.length = i ∧
      All2 (fun qa q => ∃ dx p, H1 qa = some (.ins X.CA dx (askF q p)) ∧ H1 p = some (.lst (iv q.source)) ∧ p ≠ D) qs (l.take i)) ?_ ?_ ?_⟩
    · have nrD : r ≠ D := ne_of_none m1 hD
      exact ⟨0, [], s0.trans (Same.new hD), ⟨dr, (upd_ne nrD).trans m1⟩, rfl, upd_same, rfl, .nil⟩
    · rintro i H1 hi ⟨n, qs, s1, R1, hd, d1, l1, A1⟩
      obtain ⟨q, hq⟩ : ∃ q, l[i]? = some q := ⟨_, List.getElem?_eq_getElem hi⟩
      obtain ⟨dx, R1'⟩ := id R1
      rw [encQs_at hq] at hd
      refine ⟨rfl, _, rfl, r, dx, _, rfl, R1', rdF_no a n (by decide +kernel) (by decide +kernel), ?_⟩
      unfold tNil
      refine use_rdA R1 (s1.seq hS) hd fun H2 qa n' R2 hd2 b2 aN => ?_
      have nDr : D ≠ r := ne_of d1 R1' (by intro z; cases z)
      have d2 := b2 _ _ d1 nDr
      obtain ⟨dq, p, q1, q2, nq, np⟩ := aN
      have npD : p ≠ D := (ne_of_none d1 np).symm
      obtain ⟨d2x, R2'⟩ := R2
      refine ⟨_, d2, small (by rw [List.length_map]; omega), n', qs ++ [qa], fun c o e => ?_, ⟨d2x, (upd_ne nDr.symm).trans R2'⟩, hd2, ?_, ?_, ?_⟩
      · have hDn : H D = none := by
          cases z : H D with
          | none => rfl
          | some u =>
            rw [s0 _ _ z] at hD
            cases hD
        rw [upd_ne (ne_of_none e hDn)]
        exact b2 _ _ (s1 _ _ e) (ne_of_none e nr)
      · rw [upd_same, List.map_append]
        rfl
      · rw [List.length_append, List.length_singleton, l1]
      · rw [take_more hq]
        refine All2.snoc (R := fun qa (q : Ut03.Ask) => ∃ dx p, upd H2 D _ qa = some (.ins X.CA dx (askF q p)) ∧ upd H2 D _ p = some (.lst (iv q.source)) ∧ p ≠ D) ⟨dq, p, ?_, ?_, npD⟩ (A1.imp fun qb q' z => ?_)
        · rw [upd_ne (ne_of q1 d2 (by intro z; cases z))]
          exact q1
        · rw [upd_ne npD]
          exact q2
        · obtain ⟨dy, p', z1, z2, z3⟩ := z
          have y1 := b2 _ _ z1 (ne_of z1 R1' ask_rd)
          refine ⟨dy, p', ?_, ?_, z3⟩
          · rw [upd_ne (ne_of y1 d2 (by intro z; cases z))]
            exact y1
          · rw [upd_ne z3]
            exact b2 _ _ z2 (ne_of z2 R1' (by intro z; cases z))
    · rintro H1 ⟨n, qs, s1, R1, hd, d1, l1, A1⟩
      rw [List.take_length] at A1
      exact k H1 D qs s1 d1 (A1.imp fun qa q ⟨dx, p, z1, z2, _⟩ => ⟨dx, p, z1, z2⟩)
end
end TM

set_option Elab.async false
set_option linter.all false
set_option maxRecDepth 100000
set_option maxHeartbeats 2000000
namespace TM
open PySem PySem.Spec PyProof.Rows L2
theorem But.mv {r C d a tl b : Addr} {n : Nat} {H H' : Hp} (x : But r H H') (hr : H r = some (.ins C d (rdF a n))) : Mv (hid tl b H) (hid tl b H') := fun c o e m => by
  obtain ⟨h1, h2, h3⟩ := of_hid e
  rw [hid_ne h1 h2]
  exact x c o h3 (ne_of h3 hr m.rd)
theorem hid_mono {tl b : Addr} {H H' : Hp} (x : Same H H') : Same (hid tl b H) (hid tl b H') := fun c o e => by
  obtain ⟨h1, h2, h3⟩ := of_hid e
  rw [hid_ne h1 h2]
  exact x c o h3
/-- a list that is neither the told one nor that of the earlier ones stays -/
theorem sq_hid {K : PySem.W.Frag} {tl b a : Addr} {H H' : Hp} {xs : List V} (x : ∀ c o, H c = some o → c ≠ tl → c ≠ b → ((∃ xs, o = .lst xs) ∨ ∃ u v, o = .frz u v) → H' c = some o) (h : SqL K (hid tl b H) a xs) : SqL K (hid tl b H') a xs := by
  have mv : ∀ o, hid tl b H a = some o → ((∃ xs, o = .lst xs) ∨ ∃ u v, o = .frz u v) → hid tl b H' a = some o := fun o e m => by
    obtain ⟨h1, h2, h3⟩ := of_hid e
    rw [hid_ne h1 h2]
    exact x a o h3 h1 h2 m
  rcases h with (d | ⟨o, d⟩) | d
  · exact .inl (.inl (mv _ d (.inl ⟨_, rfl⟩)))
  · exact .inl (.inr ⟨o, mv _ d (.inr ⟨_, _, rfl⟩)⟩)
  · exact .inr d
section
variable {P : Program} {w : World} {K : PySem.W.Frag} {mg : Sg → Option Value} {base : Heap}
/-- between two calls -/
structure RunAt (X : Tx K mg base) (tl b st r a : Addr) (ns : List Nat) (n : Nat) (g : Ut03.St) (xs : List V) (H : Hp) : Prop where
  mem : MemB X tl b H st g
  good : Good g
  old : g.old.length ≤ 1000
  told : H tl = some (.lst xs)
  tabs : LamX.Tabs X.T H
  rd : RdAt X.CR H r a n
  sq : SqL K (hid tl b H) a (iv ns)
theorem RunAt.sqH {X : Tx K mg base} {tl b st r a : Addr} {ns : List Nat} {n : Nat} {g : Ut03.St} {xs : List V} {H : Hp} (h : RunAt X tl b st r a ns n g xs H) : SqL K H a (iv ns) := (hid_same tl b H).seq h.sq
theorem RunAt.but {X : Tx K mg base} {tl b st r a : Addr} {ns : List Nat} {n n' : Nat} {g : Ut03.St} {xs : List V} {H H' : Hp} (h : RunAt X tl b st r a ns n g xs H) (x : But r H H') (R : RdAt X.CR H' r a n') : RunAt X tl b st r a ns n' g xs H' := by
  obtain ⟨dx, hr⟩ := h.rd
  refine ⟨h.mem.but hr x, h.good, h.old, x _ _ h.told (ne_of h.told hr (by intro z; cases z)), (Tk.but hr x).tabs h.tabs, R, sq_hid (fun c o e _ _ m => x c o e (ne_of e hr ?_)) h.sq⟩
  rcases m with ⟨_, rfl⟩ | ⟨_, _, rfl⟩ <;> (intro z; cases z)
theorem RunAt.same {X : Tx K mg base} {tl b st r a : Addr} {ns : List Nat} {n : Nat} {g : Ut03.St} {xs : List V} {H H' : Hp} (h : RunAt X tl b st r a ns n g xs H) (x : Same H H') : RunAt X tl b st r a ns n g xs H' :=
  ⟨h.mem.ext (.of x), h.good, h.old, x _ _ h.told, h.tabs.ext x, h.rd.same x, (hid_mono x).seq h.sq⟩
/-- what a call hands back -/
def RunTo (X : Tx K mg base) (tl b st r a : Addr) (ns : List Nat) (Q : VK) (g' : Ut03.St) (rest : List Nat) (ans : List Int) (xs : List V) : Prop := ∀ (H' : Hp) (p : Addr) (n' : Nat), MemB X tl b H' st g' → H' tl = some (.lst xs) → LamX.Tabs X.T H' → RdAt X.CR H' r a n' → ns.drop n' = rest → SqL K (hid tl b H') a (iv ns) → p ≠ tl → H' p = some (.lst (ans.map V.int)) → Q (.ref p) H'
theorem RunTo.st {X : Tx K mg base} {tl b st r a : Addr} {ns rest : List Nat} {n : Nat} {g g' : Ut03.St} {xs : List V} {H : Hp} {Q : VK} {ans : List Int} (h : RunAt X tl b st r a ns n g xs H) (hd : ns.drop n = rest) (k : RunTo X tl b st r a ns Q g' rest ans xs) : StTo X tl b st H Q g' ans := by
  intro H' p m fr t nu d
  obtain ⟨dx, hr⟩ := h.rd
  obtain ⟨ds, a0, es, m1, m2, m3, m4, _⟩ := h.mem
  have nrs : r ≠ st := ne_of hr m1 fun z => st_rd z.symm
  have nrb : r ≠ b := ne_of hr m2 (by intro z; cases z)
  refine k H' p n m (fr _ _ h.told m4.symm m3.symm (fun _ z => by cases z)) t ⟨dx, fr _ _ hr nrs nrb (fun _ z => by cases z)⟩ hd (sq_hid (fun c o e _ nb y => fr c o e (ne_of e m1 ?_) nb ?_) h.sq) (nu.ne h.told) d
  · rcases y with ⟨_, rfl⟩ | ⟨_, _, rfl⟩ <;> (intro z; cases z)
  · rcases y with ⟨_, rfl⟩ | ⟨_, _, rfl⟩ <;> (intro _ z; cases z)
theorem RunTo.ans {X : Tx K mg base} {tl b st r a : Addr} {ns rest : List Nat} {n : Nat} {g : Ut03.St} {xs : List V} {H : Hp} {Q : VK} {ans : List Int} (h : RunAt X tl b st r a ns n g xs H) (hd : ns.drop n = rest) (k : RunTo X tl b st r a ns Q g rest ans xs) : AnsTo X.T H Q ans := StTo.ans h.mem (k.st h hd)
/-- a new list stands apart -/
theorem new_hid {tl b p : Addr} {H H' : Hp} {o1 o2 u : HO} (ht : H tl = some o1) (hb : H b = some o2) (np : H p = none) (d : H' p = some u) : hid tl b H' p = some u := by
  rw [hid_ne (ne_of_none ht np).symm (ne_of_none hb np).symm]
  exact d
/-! ### answer_to_put -/
abbrev pAns : List Sg := ["store", "reader"]
def spAPut (X : Tx K mg base) : Sp := fun vs H Q _ => ∃ (st r tl b a : Addr) (n : Nat) (ns rest : List Nat) (g : Ut03.St) (xs : List V) (q : Ut03.Ask) (t : List Nat), vs = [.ref st, .ref r] ∧ RunAt X tl b st r a ns n g xs H ∧ ns.drop n = encQ q ++ (encS t ++ rest) ∧ q.source.length ≤ 1000 ∧ t.length ≤ 1000 ∧
  RunTo X tl b st r a ns Q (Ut03.step g (.put q t)).1 rest (Ut03.step g (.put q t)).2 xs
theorem scAPut : FnScope ["store", "reader", "ask"] pAns (defScope sAPut) := ⟨rfl, rfl, rfl, by decide +kernel, rfl, by decide +kernel, by decide +kernel⟩
theorem Tx.gAPut (X : Tx K mg base) : FnOk P w K mg base CX0 5 (X.fa 40) (X.fd 40) pAns (spAPut X) := by
  refine X.aPut.F.ok scAPut (fun vs H Q E h => ?_) (fun cdv A outer s H vs Q E hr h => ?_)
  · obtain ⟨st, r, tl, b, a, n, ns, rest, g, xs, q, t, rfl, _⟩ := h
    rfl
  · obtain ⟨st, r, tl, b, a, n, ns, rest, g, xs, q, t, rfl, hR, hd, hlq, hlt, k⟩ := h
    have hr3 : Room 3 _ := hr.mono (by decide)
    have hr2 : Room 2 _ := hr.mono (by decide)
    refine ⟨_, pss_cons (ps_set (i := 2) scAPut.nd rfl (Or.inl rfl) (pe_meth0 (pv 1) X.Rd.cl X.rdA.m X.gRdA hr3 X.rdA.b .nil pass0))
      (pss_one (ps_ret (pe_meth (pv 0) X.S.cl X.putM.m X.gPut hr X.putM.b .nil pass0 (pa_cons (pv 2) (pa_cons (pe_meth0 (pv 1) X.Rd.cl X.rdR.m X.gRdR hr2 X.rdR.b .nil pass0) pa_nil))))), ?_⟩
    obtain ⟨dr, hr0⟩ := hR.rd
    refine ⟨_, rfl, r, dr, _, rfl, hr0, rdF_no _ _ (by decide +kernel) (by decide +kernel), ?_⟩
    unfold tNil
    refine use_rdA hR.rd hR.sqH hd fun H1 qa n1 R1 hd1 b1 aN => ?_
    have hR1 := hR.but b1 R1
    obtain ⟨ds, a0, es, m1, m2, m3, m4, _⟩ := hR1.mem
    obtain ⟨_, _, _, _, m02, _⟩ := hR.mem
    obtain ⟨d1, hr1⟩ := hR1.rd
    refine ⟨_, rfl, st, ds, _, rfl, m1, stF_no _ _ _ (by decide +kernel) (by decide +kernel) (by decide +kernel), _, rfl, _, rfl, r, d1, _, rfl, hr1, rdF_no _ _ (by decide +kernel) (by decide +kernel), ?_⟩
    refine use_rdR hR1.rd hR1.sqH hd1 fun H2 t2 n2 R2 hd2 b2 nt dt => ?_
    have hR2 := hR1.but b2 R2
    obtain ⟨dq, sp, q1, q2, nq, nsp⟩ := aN
    have hA : AskAt X.CA (hid tl b H1) qa q := ⟨dq, sp, new_hid hR.told m02 nq q1, new_hid hR.told m02 nsp q2⟩
    exact ⟨st, qa, t2, tl, b, g, q, t, xs, rfl, hR2.mem, hR2.good, hR2.old, hA.mv (b2.mv hr1), new_hid hR1.told m2 nt dt, hlq, hlt, hR2.told, hR2.tabs, k.st hR2 hd2⟩
/-! ### answer_to_find -/
def spAFind (X : Tx K mg base) : Sp := fun vs H Q _ => ∃ (st r tl b a : Addr) (n : Nat) (ns rest : List Nat) (g : Ut03.St) (xs : List V) (least : Nat) (q : Ut03.Ask), vs = [.ref st, .ref r] ∧ RunAt X tl b st r a ns n g xs H ∧ ns.drop n = least :: (encQ q ++ rest) ∧ q.source.length ≤ 1000 ∧
  RunTo X tl b st r a ns Q (Ut03.step g (.find least q)).1 rest (Ut03.step g (.find least q)).2 xs
theorem scAFind : FnScope ["store", "reader", "least"] pAns (defScope sAFind) := ⟨rfl, rfl, rfl, by decide +kernel, rfl, by decide +kernel, by decide +kernel⟩
theorem Tx.gAFind (X : Tx K mg base) : FnOk P w K mg base CX0 8 (X.fa 41) (X.fd 41) pAns (spAFind X) := by
  refine X.aFind.F.ok scAFind (fun vs H Q E h => ?_) (fun cdv A outer s H vs Q E hr h => ?_)
  · obtain ⟨st, r, tl, b, a, n, ns, rest, g, xs, least, q, rfl, _⟩ := h
    rfl
  · obtain ⟨st, r, tl, b, a, n, ns, rest, g, xs, least, q, rfl, hR, hd, hlq, k⟩ := h
    have hr3 : Room 3 _ := hr.mono (by decide)
    have hr1 : Room 1 _ := hr.mono (by decide)
    refine ⟨_, pss_cons (ps_set (i := 2) scAFind.nd rfl (Or.inl rfl) (pe_meth0 (pv 1) X.Rd.cl X.rdN.m X.gRdN hr1 X.rdN.b .nil pass0))
      (pss_one (ps_ret (pe_meth (pv 0) X.S.cl X.findM.m (ok_find X X.findM) hr X.findM.b .nil pass0 (pa_cons (pv 2) (pa_cons (pe_meth0 (pv 1) X.Rd.cl X.rdA.m X.gRdA hr3 X.rdA.b .nil pass0) pa_nil))))), ?_⟩
    obtain ⟨dr, hr0⟩ := hR.rd
    refine ⟨_, rfl, r, dr, _, rfl, hr0, rdF_no _ _ (by decide +kernel) (by decide +kernel), ?_⟩
    unfold tNil
    refine use_rdN hR.rd hR.sqH hd fun H1 R1 hd1 b1 => ?_
    have hR1 := hR.but b1 R1
    obtain ⟨ds, a0, es, m1, m2, m3, m4, _⟩ := hR1.mem
    obtain ⟨d1, hr1'⟩ := hR1.rd
    refine ⟨_, rfl, st, ds, _, rfl, m1, stF_no _ _ _ (by decide +kernel) (by decide +kernel) (by decide +kernel), _, rfl, _, rfl, r, d1, _, rfl, hr1', rdF_no _ _ (by decide +kernel) (by decide +kernel), ?_⟩
    refine use_rdA hR1.rd hR1.sqH hd1 fun H2 qa n2 R2 hd2 b2 aN => ?_
    have hR2 := hR1.but b2 R2
    exact ⟨st, qa, least, g, q, rfl, hR2.mem.ents, hR2.good, aN.at, hlq, hR2.tabs, RunTo.ans hR2 hd2 k⟩
/-! ### answer_to_way -/
def spAWay (X : Tx K mg base) : Sp := fun vs H Q _ => ∃ (st r tl b a : Addr) (n : Nat) (ns rest : List Nat) (g : Ut03.St) (xs : List V) (m : Nat) (z : List Nat), vs = [.ref st, .ref r] ∧ RunAt X tl b st r a ns n g xs H ∧ ns.drop n = m :: (encS z ++ rest) ∧ z.length ≤ 1000 ∧
  RunTo X tl b st r a ns Q (Ut03.step g (.way m z)).1 rest (Ut03.step g (.way m z)).2 xs
theorem scAWay : FnScope ["store", "reader", "number"] pAns (defScope sAWay) := ⟨rfl, rfl, rfl, by decide +kernel, rfl, by decide +kernel, by decide +kernel⟩
theorem Tx.gAWay (X : Tx K mg base) : FnOk P w K mg base CX0 5 (X.fa 42) (X.fd 42) pAns (spAWay X) := by
  refine X.aWay.F.ok scAWay (fun vs H Q E h => ?_) (fun cdv A outer s H vs Q E hr h => ?_)
  · obtain ⟨st, r, tl, b, a, n, ns, rest, g, xs, m, z, rfl, _⟩ := h
    rfl
  · obtain ⟨st, r, tl, b, a, n, ns, rest, g, xs, m, z, rfl, hR, hd, hlz, k⟩ := h
    have hr2 : Room 2 _ := hr.mono (by decide)
    have hr1 : Room 1 _ := hr.mono (by decide)
    refine ⟨_, pss_cons (ps_set (i := 2) scAWay.nd rfl (Or.inl rfl) (pe_meth0 (pv 1) X.Rd.cl X.rdN.m X.gRdN hr1 X.rdN.b .nil pass0))
      (pss_one (ps_ret (pe_meth (pv 0) X.S.cl X.wayM.m (ok_wayM X X.wayM) hr X.wayM.b .nil pass0 (pa_cons (pv 2) (pa_cons (pe_meth0 (pv 1) X.Rd.cl X.rdR.m X.gRdR hr2 X.rdR.b .nil pass0) pa_nil))))), ?_⟩
    obtain ⟨dr, hr0⟩ := hR.rd
    refine ⟨_, rfl, r, dr, _, rfl, hr0, rdF_no _ _ (by decide +kernel) (by decide +kernel), ?_⟩
    unfold tNil
    refine use_rdN hR.rd hR.sqH hd fun H1 R1 hd1 b1 => ?_
    have hR1 := hR.but b1 R1
    obtain ⟨ds, a0, es, m1, m2, m3, m4, _⟩ := hR1.mem
    obtain ⟨d1, hr1'⟩ := hR1.rd
    refine ⟨_, rfl, st, ds, _, rfl, m1, stF_no _ _ _ (by decide +kernel) (by decide +kernel) (by decide +kernel), _, rfl, _, rfl, r, d1, _, rfl, hr1', rdF_no _ _ (by decide +kernel) (by decide +kernel), ?_⟩
    refine use_rdR hR1.rd hR1.sqH hd1 fun H2 t2 n2 R2 hd2 b2 nt dt => ?_
    have hR2 := hR1.but b2 R2
    exact ⟨st, t2, m, g, z, rfl, hR2.mem.ents, hR2.good, SqL.of dt, dt, hlz, hR2.tabs, RunTo.ans hR2 hd2 k⟩
/-! ### answer_to_fill -/
def spAFill (X : Tx K mg base) : Sp := fun vs H Q _ => ∃ (st r tl b a : Addr) (n : Nat) (ns rest : List Nat) (g : Ut03.St) (xs : List V) (least : Nat) (l : List Ut03.Ask), vs = [.ref st, .ref r] ∧ RunAt X tl b st r a ns n g xs H ∧ ns.drop n = least :: l.length :: (encS (encQs l) ++ rest) ∧ l.length ≤ 1000 ∧ (∀ q ∈ l, q.source.length ≤ 1000) ∧
  RunTo X tl b st r a ns Q (Ut03.step g (.fill least l)).1 rest (Ut03.step g (.fill least l)).2 xs
theorem scAFill : FnScope ["store", "reader", "least", "many"] pAns (defScope sAFill) := ⟨rfl, rfl, rfl, by decide +kernel, rfl, by decide +kernel, by decide +kernel⟩
theorem Tx.gAFill (X : Tx K mg base) : FnOk P w K mg base CX0 9 (X.fa 43) (X.fd 43) pAns (spAFill X) := by
  refine X.aFill.F.ok scAFill (fun vs H Q E h => ?_) (fun cdv A outer s H vs Q E hr h => ?_)
  · obtain ⟨st, r, tl, b, a, n, ns, rest, g, xs, least, l, rfl, _⟩ := h
    rfl
  · obtain ⟨st, r, tl, b, a, n, ns, rest, g, xs, least, l, rfl, hR, hd, hl, hlq, k⟩ := h
    have hr4 : Room 4 _ := hr.mono (by decide)
    have hr2 : Room 2 _ := hr.mono (by decide)
    have hr1 : Room 1 _ := hr.mono (by decide)
    refine ⟨_, pss_cons (ps_set (i := 2) scAFill.nd rfl (Or.inl rfl) (pe_meth0 (pv 1) X.Rd.cl X.rdN.m X.gRdN hr1 X.rdN.b .nil pass0))
      (pss_cons (ps_set (i := 3) scAFill.nd rfl (Or.inl rfl) (pe_meth0 (pv 1) X.Rd.cl X.rdN.m X.gRdN hr1 X.rdN.b .nil pass0))
      (pss_one (ps_ret (pe_meth (pv 0) X.S.cl X.fillM.m X.gFill hr X.fillM.b .nil pass0 (pa_cons (pv 2) (pa_cons (pe_call X.gAsksIn hr4 rfl X.asksIn.g X.asksIn.F.kp X.asksIn.b .nil pass0 (pa_cons (pe_meth0 (pv 1) X.Rd.cl X.rdR.m X.gRdR hr2 X.rdR.b .nil pass0) (pa_cons (pv 3) pa_nil))) pa_nil)))))), ?_⟩
    obtain ⟨dr, hr0⟩ := hR.rd
    refine ⟨_, rfl, r, dr, _, rfl, hr0, rdF_no _ _ (by decide +kernel) (by decide +kernel), ?_⟩
    unfold tNil
    refine use_rdN hR.rd hR.sqH hd fun H1 R1 hd1 b1 => ?_
    have hR1 := hR.but b1 R1
    obtain ⟨d1, hr1'⟩ := hR1.rd
    refine ⟨_, rfl, r, d1, _, rfl, hr1', rdF_no _ _ (by decide +kernel) (by decide +kernel), ?_⟩
    refine use_rdN hR1.rd hR1.sqH hd1 fun H2 R2 hd2 b2 => ?_
    have hR2 := hR1.but b2 R2
    obtain ⟨ds, a0, es, m1, m2, m3, m4, _⟩ := hR2.mem
    obtain ⟨d2, hr2'⟩ := hR2.rd
    refine ⟨_, rfl, st, ds, _, rfl, m1, stF_no _ _ _ (by decide +kernel) (by decide +kernel) (by decide +kernel), _, rfl, _, rfl, r, d2, _, rfl, hr2', rdF_no _ _ (by decide +kernel) (by decide +kernel), ?_⟩
    refine use_rdR hR2.rd hR2.sqH hd2 fun H3 t3 n3 R3 hd3 b3 nt dt => ?_
    have hR3 := hR2.but b3 R3
    refine ⟨_, rfl, t3, l, rfl, SqL.of dt, hl, fun H4 p qs s4 dp A4 => ?_⟩
    have hR4 := hR3.same s4
    exact ⟨st, p, least, g, qs, l, rfl, hR4.mem.ents, hR4.good, dp, A4, hl, hlq, hR4.tabs, RunTo.ans hR4 hd3 k⟩
/-! ### answer_to_near -/
def spANear (X : Tx K mg base) : Sp := fun vs H Q _ => ∃ (st r tl b a : Addr) (n : Nat) (ns rest : List Nat) (g : Ut03.St) (xs : List V) (y z : List Nat), vs = [.ref r] ∧ RunAt X tl b st r a ns n g xs H ∧ ns.drop n = encS y ++ (encS z ++ rest) ∧ y.length ≤ 1000 ∧ z.length ≤ 1000 ∧
  RunTo X tl b st r a ns Q (Ut03.step g (.near y z)).1 rest (Ut03.step g (.near y z)).2 xs
theorem scANear : FnScope ["reader", "sentence", "other"] ["reader"] (defScope sANear) := ⟨rfl, rfl, rfl, by decide +kernel, rfl, by decide +kernel, by decide +kernel⟩
theorem Tx.gANear (X : Tx K mg base) : FnOk P w K mg base CX0 5 (X.fa 44) (X.fd 44) ["reader"] (spANear X) := by
  refine X.aNear.F.ok scANear (fun vs H Q E h => ?_) (fun cdv A outer s H vs Q E hr h => ?_)
  · obtain ⟨st, r, tl, b, a, n, ns, rest, g, xs, y, z, rfl, _⟩ := h
    rfl
  · obtain ⟨st, r, tl, b, a, n, ns, rest, g, xs, y, z, rfl, hR, hd, hly, hlz, k⟩ := h
    have hr3 : Room 3 _ := hr.mono (by decide)
    have hr2 : Room 2 _ := hr.mono (by decide)
    have hr1 : Room 1 _ := hr.mono (by decide)
    refine ⟨_, pss_cons (ps_set (i := 1) scANear.nd rfl (Or.inl rfl) (pe_meth0 (pv 0) X.Rd.cl X.rdR.m X.gRdR hr2 X.rdR.b .nil pass0))
      (pss_cons (ps_set (i := 2) scANear.nd rfl (Or.inl rfl) (pe_meth0 (pv 0) X.Rd.cl X.rdR.m X.gRdR hr2 X.rdR.b .nil pass0))
      (pss_cons (ps_if (PW.pt (pw_or (pt_not (pt_val (pe_call X.gSent hr1 rfl X.sent.g X.sent.F.kp X.sent.b .nil pass0 (pa_cons (pv 1) pa_nil)))) (pw_or1 (pt_not (pt_val (pe_call X.gSent hr1 rfl X.sent.g X.sent.F.kp X.sent.b .nil pass0 (pa_cons (pv 2) pa_nil)))))))
        (pss_one (ps_ret (pe_call X.gRef hr1 rfl X.ref.g X.ref.F.kp X.ref.b .nil pass0 (pa_cons (pe_gint rfl X.R.wrong) pa_nil)))) pss_nil)
      (pss_one (ps_ret (pe_lst (pa_cons (pe_call X.gDist hr3 rfl X.dist.g X.dist.F.kp X.dist.b .nil pass0 (pa_cons (pv 1) (pa_cons (pv 2) pa_nil))) (pa_cons (pe_call X.gNear hr rfl X.near.g X.near.F.kp X.near.b .nil pass0 (pa_cons (pv 1) (pa_cons (pv 2) pa_nil))) pa_nil))))))), ?_⟩
    obtain ⟨dr, hr0⟩ := hR.rd
    refine ⟨_, rfl, r, dr, _, rfl, hr0, rdF_no _ _ (by decide +kernel) (by decide +kernel), ?_⟩
    unfold tNil
    refine use_rdR hR.rd hR.sqH hd fun H1 t1 n1 R1 hd1 b1 nt1 dt1 => ?_
    have hR1 := hR.but b1 R1
    obtain ⟨d1, hr1'⟩ := hR1.rd
    refine ⟨_, rfl, r, d1, _, rfl, hr1', rdF_no _ _ (by decide +kernel) (by decide +kernel), ?_⟩
    refine use_rdR hR1.rd hR1.sqH hd1 fun H2 t2 n2 R2 hd2 b2 nt2 dt2 => ?_
    have hR2 := hR1.but b2 R2
    have e1 : H2 t1 = some (.lst (iv y)) := b2 _ _ dt1 (ne_of dt1 hr1' (by intro z; cases z))
    have kk : AnsTo X.T H2 Q (if Ut03.sentOk y = false ∨ Ut03.sentOk z = false then [-1] else Ut03.ints [Ut03.distance y z, Ut03.near y z]) := RunTo.ans hR2 hd2 k
    have hT := hR2.tabs
    clear k hR hR1 hR2
    refine ⟨_, rfl, t1, y, rfl, SqL.of e1, hly, fun H3 s3 => ⟨_, rfl, ?_⟩⟩
    cases c1 : Ut03.sentOk y with
    | false =>
      rw [if_pos (.inl c1)] at kk
      refine ifT rfl ?_
      exact ⟨_, rfl, ref_ans s3 hT kk⟩
    | true =>
      refine ifF rfl ?_
      refine ⟨_, rfl, t2, z, rfl, SqL.of (s3 _ _ dt2), hlz, fun H4 s4 => ⟨_, rfl, ?_⟩⟩
      have s34 := s3.trans s4
      cases c2 : Ut03.sentOk z with
      | false =>
        rw [if_pos (.inr c2)] at kk
        exact ⟨_, rfl, ref_ans s34 hT kk⟩
      | true =>
        rw [if_neg (fun z => z.elim (fun y => by rw [c1] at y; cases y) (fun y => by rw [c2] at y; cases y))] at kk
        refine ⟨_, rfl, _, rfl, t1, t2, y, z, rfl, SqL.of (s34 _ _ e1), SqL.of (s34 _ _ dt2), hly, hlz, fun H5 s5 => ?_⟩
        have s35 := s34.trans s5
        refine ⟨_, rfl, _, rfl, t1, t2, y, z, rfl, SqL.of (s35 _ _ e1), SqL.of (s35 _ _ dt2), hly, hlz, fun H6 s6 => ⟨by show 2 ≤ sizeLine; decide, fun p hp => ?_⟩⟩
        have s36 := s35.trans s6
        exact kk _ p (.of (s36.trans (Same.new hp))) (hT.ext (s36.trans (Same.new hp))) (Nu.ext (.of s36) hp) upd_same
end
end TM

set_option Elab.async false
set_option linter.all false
set_option maxRecDepth 100000
set_option maxHeartbeats 4100000
namespace TM
open PySem PySem.Spec PyProof.Rows L2
theorem encQs_len : ∀ l : List Ut03.Ask, l.length ≤ (encQs l).length ∧ ∀ q ∈ l, q.source.length ≤ (encQs l).length
  | [] => ⟨Nat.zero_le _, fun q h => absurd h (by simp)⟩
  | p :: l => by
    obtain ⟨h1, h2⟩ := encQs_len l
    have e : (encQs (p :: l)).length = (p.source.length + 1 + 1 + 1 + 1) + (encQs l).length := by
      show (encQ p ++ encQs l).length = _
      rw [List.length_append]
      rfl
    refine ⟨by rw [List.length_cons, e]; omega, fun q hq => ?_⟩
    rw [e]
    rcases List.mem_cons.mp hq with z | z
    · rw [z]
      omega
    · have := h2 q z
      omega
section
variable {P : Program} {w : World} {K : PySem.W.Frag} {mg : Sg → Option Value} {base : Heap}
/-! ### answer_to_next -/
def spNext (X : Tx K mg base) : Sp := fun vs H Q _ => ∃ (st r tl b a : Addr) (n : Nat) (ns rest : List Nat) (g : Ut03.St) (xs : List V) (c : Ut03.Call), vs = [.ref st, .ref r] ∧ RunAt X tl b st r a ns n g xs H ∧ ns.drop n = enc c ++ rest ∧ sizes c ∧
  RunTo X tl b st r a ns Q (Ut03.step g c).1 rest (Ut03.step g c).2 xs
theorem scNext : FnScope ["store", "reader", "call"] pAns (defScope sNext) := ⟨rfl, rfl, rfl, by decide +kernel, rfl, by decide +kernel, by decide +kernel⟩
theorem Tx.gNext (X : Tx K mg base) : FnOk P w K mg base CX0 10 (X.fa 39) (X.fd 39) pAns (spNext X) := by
  refine X.next.F.ok scNext (fun vs H Q E h => ?_) (fun cdv A outer s H vs Q E hr h => ?_)
  · obtain ⟨st, r, tl, b, a, n, ns, rest, g, xs, c, rfl, _⟩ := h
    rfl
  · obtain ⟨st, r, tl, b, a, n, ns, rest, g, xs, c, rfl, hR, hd, hz, k⟩ := h
    have hr8 : Room 8 _ := hr.mono (by decide)
    have hr7 : Room 7 _ := hr.mono (by decide)
    have hr5 : Room 5 _ := hr.mono (by decide)
    have hr3 : Room 3 _ := hr.mono (by decide)
    have hr2 : Room 2 _ := hr.mono (by decide)
    have hr1 : Room 1 _ := hr.mono (by decide)
    refine ⟨_, pss_cons (ps_set (i := 2) scNext.nd rfl (Or.inl rfl) (pe_meth0 (pv 1) X.Rd.cl X.rdN.m X.gRdN hr1 X.rdN.b .nil pass0))
      (pss_cons (ps_if (pt_cmpR op_eq (pv 2) (pe_gint rfl X.Mm.put) (nomark _)) (pss_one (ps_ret (pe_call X.gAPut hr5 rfl X.aPut.g X.aPut.F.kp X.aPut.b .nil pass0 (pa_cons (pv 0) (pa_cons (pv 1) pa_nil))))) pss_nil)
      (pss_cons (ps_if (pt_cmpR op_eq (pv 2) (pe_gint rfl X.Mm.take) (nomark _)) (pss_one (ps_ret (pe_meth (pv 0) X.S.cl X.takeM.m X.gTake hr2 X.takeM.b .nil pass0 (pa_cons (pe_meth0 (pv 1) X.Rd.cl X.rdN.m X.gRdN hr1 X.rdN.b .nil pass0) pa_nil)))) pss_nil)
      (pss_cons (ps_if (pt_cmpR op_eq (pv 2) (pe_gint rfl X.Mm.find) (nomark _)) (pss_one (ps_ret (pe_call X.gAFind hr8 rfl X.aFind.g X.aFind.F.kp X.aFind.b .nil pass0 (pa_cons (pv 0) (pa_cons (pv 1) pa_nil))))) pss_nil)
      (pss_cons (ps_if (pt_cmpR op_eq (pv 2) (pe_gint rfl X.Mm.best) (nomark _)) (pss_one (ps_ret (pe_meth (pv 0) X.S.cl X.bestM.m (ok_best X X.bestM) hr7 X.bestM.b .nil pass0 (pa_cons (pe_meth0 (pv 1) X.Rd.cl X.rdA.m X.gRdA hr3 X.rdA.b .nil pass0) pa_nil)))) pss_nil)
      (pss_cons (ps_if (pt_cmpR op_eq (pv 2) (pe_gint rfl X.Mm.way) (nomark _)) (pss_one (ps_ret (pe_call X.gAWay hr5 rfl X.aWay.g X.aWay.F.kp X.aWay.b .nil pass0 (pa_cons (pv 0) (pa_cons (pv 1) pa_nil))))) pss_nil)
      (pss_cons (ps_if (pt_cmpR op_eq (pv 2) (pe_gint rfl X.Mm.with_) (nomark _)) (pss_one (ps_ret (pe_meth (pv 0) X.S.cl X.withM.m (ok_with X X.withM) hr1 X.withM.b .nil pass0 (pa_cons (pe_meth0 (pv 1) X.Rd.cl X.rdN.m X.gRdN hr1 X.rdN.b .nil pass0) pa_nil)))) pss_nil)
      (pss_cons (ps_if (pt_cmpR op_eq (pv 2) (pe_gint rfl X.Mm.fill) (nomark _)) (pss_one (ps_ret (pe_call X.gAFill hr rfl X.aFill.g X.aFill.F.kp X.aFill.b .nil pass0 (pa_cons (pv 0) (pa_cons (pv 1) pa_nil))))) pss_nil)
      (pss_cons (ps_if (pt_cmpR op_eq (pv 2) (pe_gint rfl X.Mm.entry) (nomark _)) (pss_one (ps_ret (pe_meth (pv 0) X.S.cl X.entryM.m X.gEntry hr2 X.entryM.b .nil pass0 (pa_cons (pe_meth0 (pv 1) X.Rd.cl X.rdN.m X.gRdN hr1 X.rdN.b .nil pass0) pa_nil)))) pss_nil)
      (pss_cons (ps_if (pt_cmpR op_eq (pv 2) (pe_gint rfl X.Mm.count) (nomark _)) (pss_one (ps_ret (pe_meth0 (pv 0) X.S.cl X.countM.m X.gCount hr1 X.countM.b .nil pass0))) pss_nil)
      (pss_cons (ps_if (pt_cmpR op_eq (pv 2) (pe_gint rfl X.Mm.undo) (nomark _)) (pss_one (ps_ret (pe_meth0 (pv 0) X.S.cl X.undoM.m X.gUndo hr2 X.undoM.b .nil pass0))) pss_nil)
      (pss_cons (ps_if (pt_cmpR op_eq (pv 2) (pe_gint rfl X.Mm.near) (nomark _)) (pss_one (ps_ret (pe_call X.gANear hr5 rfl X.aNear.g X.aNear.F.kp X.aNear.b .nil pass0 (pa_cons (pv 1) pa_nil)))) pss_nil)
      (pss_one ps_never)))))))))))), ?_⟩
    obtain ⟨dr, hr0⟩ := hR.rd
    refine ⟨_, rfl, r, dr, _, rfl, hr0, rdF_no _ _ (by decide +kernel) (by decide +kernel), ?_⟩
    unfold tNil
    have go : ∀ {x : Nat} {l : List Nat} {Q' : VK}, ns.drop n = x :: l → (∀ H1, RunAt X tl b st r a ns (n + 1) g xs H1 → ns.drop (n + 1) = l → Q' (.int (x : Int)) H1) → spRdN K X.CR [.ref r] H Q' E0 := fun hd' kk => use_rdN hR.rd hR.sqH hd' fun H1 R1 hd1 b1 => kk H1 (hR.but b1 R1) hd1
    have stn : ∀ {H1 : Hp}, RunAt X tl b st r a ns (n + 1) g xs H1 → ∃ ds a0, H1 st = some (.ins X.CS ds (stF a0 b g.given)) := fun h => by
      obtain ⟨ds, a0, _, m1, _⟩ := h.mem
      exact ⟨ds, a0, m1⟩
    cases c with
    | put q t =>
      have hd : ns.drop n = 0 :: (encQ q ++ (encS t ++ rest)) := by
        rw [hd, ← List.append_assoc]
        rfl
      refine go hd fun H1 hR1 hd1 => ?_
      refine ⟨_, rfl, rfl, _, rfl, ?_⟩
      refine ifT rfl ?_
      exact ⟨_, rfl, _, rfl, st, r, tl, b, a, n + 1, ns, rest, g, xs, q, t, rfl, hR1, hd1, Nat.le_trans hz.1 (by decide), Nat.le_trans hz.2 (by decide), k⟩
    | take m =>
      refine go (x := 1) hd fun H1 hR1 hd1 => ?_
      refine ⟨_, rfl, rfl, _, rfl, ?_⟩
      refine ifF rfl ?_
      refine ⟨_, rfl, rfl, _, rfl, ?_⟩
      refine ifT rfl ?_
      obtain ⟨ds, a0, m1⟩ := stn hR1
      obtain ⟨d1, hr1'⟩ := hR1.rd
      refine ⟨_, rfl, st, ds, _, rfl, m1, stF_no _ _ _ (by decide +kernel) (by decide +kernel) (by decide +kernel), _, rfl, r, d1, _, rfl, hr1', rdF_no _ _ (by decide +kernel) (by decide +kernel), ?_⟩
      refine use_rdN (x := m) hR1.rd hR1.sqH hd1 fun H2 R2 hd2 b2 => ?_
      have hR2 := hR1.but b2 R2
      exact ⟨st, tl, b, m, g, xs, rfl, hR2.mem, hR2.good, hR2.old, hR2.told, hR2.tabs, k.st hR2 hd2⟩
    | find m q =>
      have hd : ns.drop n = 2 :: (m :: (encQ q ++ rest)) := hd
      refine go hd fun H1 hR1 hd1 => ?_
      iterate 2
        refine ⟨_, rfl, rfl, _, rfl, ?_⟩
        refine ifF rfl ?_
      refine ⟨_, rfl, rfl, _, rfl, ?_⟩
      refine ifT rfl ?_
      exact ⟨_, rfl, _, rfl, st, r, tl, b, a, n + 1, ns, rest, g, xs, m, q, rfl, hR1, hd1, Nat.le_trans hz (by decide), k⟩
    | best q =>
      have hd : ns.drop n = 3 :: (encQ q ++ rest) := hd
      refine go hd fun H1 hR1 hd1 => ?_
      iterate 3
        refine ⟨_, rfl, rfl, _, rfl, ?_⟩
        refine ifF rfl ?_
      refine ⟨_, rfl, rfl, _, rfl, ?_⟩
      refine ifT rfl ?_
      obtain ⟨ds, a0, m1⟩ := stn hR1
      obtain ⟨d1, hr1'⟩ := hR1.rd
      refine ⟨_, rfl, st, ds, _, rfl, m1, stF_no _ _ _ (by decide +kernel) (by decide +kernel) (by decide +kernel), _, rfl, r, d1, _, rfl, hr1', rdF_no _ _ (by decide +kernel) (by decide +kernel), ?_⟩
      refine use_rdA hR1.rd hR1.sqH hd1 fun H2 qa n2 R2 hd2 b2 aN => ?_
      have hR2 := hR1.but b2 R2
      exact ⟨st, qa, g, q, rfl, hR2.mem.ents, hR2.good, aN.at, Nat.le_trans hz (by decide), hR2.tabs, RunTo.ans hR2 hd2 k⟩
    | way m z =>
      have hd : ns.drop n = 4 :: (m :: (encS z ++ rest)) := hd
      refine go hd fun H1 hR1 hd1 => ?_
      iterate 4
        refine ⟨_, rfl, rfl, _, rfl, ?_⟩
        refine ifF rfl ?_
      refine ⟨_, rfl, rfl, _, rfl, ?_⟩
      refine ifT rfl ?_
      exact ⟨_, rfl, _, rfl, st, r, tl, b, a, n + 1, ns, rest, g, xs, m, z, rfl, hR1, hd1, Nat.le_trans hz (by decide), k⟩
    | with_ m =>
      refine go (x := 5) hd fun H1 hR1 hd1 => ?_
      iterate 5
        refine ⟨_, rfl, rfl, _, rfl, ?_⟩
        refine ifF rfl ?_
      refine ⟨_, rfl, rfl, _, rfl, ?_⟩
      refine ifT rfl ?_
      obtain ⟨ds, a0, m1⟩ := stn hR1
      obtain ⟨d1, hr1'⟩ := hR1.rd
      refine ⟨_, rfl, st, ds, _, rfl, m1, stF_no _ _ _ (by decide +kernel) (by decide +kernel) (by decide +kernel), _, rfl, r, d1, _, rfl, hr1', rdF_no _ _ (by decide +kernel) (by decide +kernel), ?_⟩
      refine use_rdN (x := m) hR1.rd hR1.sqH hd1 fun H2 R2 hd2 b2 => ?_
      have hR2 := hR1.but b2 R2
      exact ⟨st, m, g, rfl, hR2.mem.ents, hR2.good, hR2.tabs, RunTo.ans hR2 hd2 k⟩
    | fill m l =>
      have hd : ns.drop n = 6 :: (m :: l.length :: (encS (encQs l) ++ rest)) := hd
      refine go hd fun H1 hR1 hd1 => ?_
      iterate 6
        refine ⟨_, rfl, rfl, _, rfl, ?_⟩
        refine ifF rfl ?_
      refine ⟨_, rfl, rfl, _, rfl, ?_⟩
      refine ifT rfl ?_
      obtain ⟨z1, z2⟩ := encQs_len l
      have hz : (encQs l).length ≤ 300 := hz
      exact ⟨_, rfl, _, rfl, st, r, tl, b, a, n + 1, ns, rest, g, xs, m, l, rfl, hR1, hd1, by omega, fun q hq => by have := z2 q hq; omega, k⟩
    | entry m =>
      refine go (x := 7) hd fun H1 hR1 hd1 => ?_
      iterate 7
        refine ⟨_, rfl, rfl, _, rfl, ?_⟩
        refine ifF rfl ?_
      refine ⟨_, rfl, rfl, _, rfl, ?_⟩
      refine ifT rfl ?_
      obtain ⟨ds, a0, m1⟩ := stn hR1
      obtain ⟨d1, hr1'⟩ := hR1.rd
      refine ⟨_, rfl, st, ds, _, rfl, m1, stF_no _ _ _ (by decide +kernel) (by decide +kernel) (by decide +kernel), _, rfl, r, d1, _, rfl, hr1', rdF_no _ _ (by decide +kernel) (by decide +kernel), ?_⟩
      refine use_rdN (x := m) hR1.rd hR1.sqH hd1 fun H2 R2 hd2 b2 => ?_
      have hR2 := hR1.but b2 R2
      exact ⟨st, m, g, rfl, hR2.mem.ents, hR2.good, hR2.tabs, RunTo.ans hR2 hd2 k⟩
    | count =>
      refine go (x := 8) hd fun H1 hR1 hd1 => ?_
      iterate 8
        refine ⟨_, rfl, rfl, _, rfl, ?_⟩
        refine ifF rfl ?_
      refine ⟨_, rfl, rfl, _, rfl, ?_⟩
      refine ifT rfl ?_
      obtain ⟨ds, a0, m1⟩ := stn hR1
      exact ⟨_, rfl, st, ds, _, rfl, m1, stF_no _ _ _ (by decide +kernel) (by decide +kernel) (by decide +kernel), st, tl, b, g, rfl, hR1.mem, hR1.good, hR1.tabs, RunTo.ans hR1 hd1 k⟩
    | undo =>
      refine go (x := 9) hd fun H1 hR1 hd1 => ?_
      iterate 9
        refine ⟨_, rfl, rfl, _, rfl, ?_⟩
        refine ifF rfl ?_
      refine ⟨_, rfl, rfl, _, rfl, ?_⟩
      refine ifT rfl ?_
      obtain ⟨ds, a0, m1⟩ := stn hR1
      exact ⟨_, rfl, st, ds, _, rfl, m1, stF_no _ _ _ (by decide +kernel) (by decide +kernel) (by decide +kernel), st, tl, b, g, xs, rfl, hR1.mem, hR1.good, hR1.told, hR1.tabs, k.st hR1 hd1⟩
    | near y z =>
      have hd : ns.drop n = 10 :: (encS y ++ (encS z ++ rest)) := by
        rw [hd, ← List.append_assoc]
        rfl
      refine go hd fun H1 hR1 hd1 => ?_
      iterate 10
        refine ⟨_, rfl, rfl, _, rfl, ?_⟩
        refine ifF rfl ?_
      refine ⟨_, rfl, rfl, _, rfl, ?_⟩
      refine ifT rfl ?_
      exact ⟨_, rfl, st, r, tl, b, a, n + 1, ns, rest, g, xs, y, z, rfl, hR1, hd1, Nat.le_trans hz.1 (by decide), Nat.le_trans hz.2 (by decide), k⟩
end
end TM

set_option Elab.async false
set_option linter.all false
set_option maxRecDepth 100000
set_option maxHeartbeats 4100000
namespace TM
open PySem PySem.Spec PyProof.Rows L2
theorem old_step (g : Ut03.St) (c : Ut03.Call) : (Ut03.step g c).1.old.length ≤ g.old.length + 1 := by
  cases c with
  | put q t =>
    rw [step_put]
    split
    · exact Nat.le_succ _
    · split
      · exact Nat.le_succ _
      · exact Nat.le_refl _
  | take n =>
    rw [step_take]
    split
    · exact Nat.le_succ _
    · exact Nat.le_refl _
  | undo =>
    show (match g.old with
      | [] => (g, [-7])
      | l :: r => (({ g with entries := l, old := r } : Ut03.St), Ut03.ints [l.length])).1.old.length ≤ _
    cases e : g.old with
    | nil =>
      show g.old.length ≤ _
      rw [e]
      exact Nat.le_succ _
    | cons l r =>
      show r.length ≤ r.length + 1 + 1
      omega
  | _ => exact Nat.le_succ _
theorem enc_ne (c : Ut03.Call) : enc c ≠ [] := by
  cases c <;> (intro z; cases z)
theorem told_cons (x : List Int) (l : List (List Int)) : PyFlat.told (x :: l) = ((x.length : Int) :: x) ++ PyFlat.told l := rfl
section
variable {P : Program} {w : World} {K : PySem.W.Frag} {mg : Sg → Option Value} {base : Heap}
/-! ### answers -/
abbrev nAnswers : List Sg := ["calls", "reader", "store", "told", "answer"]
def spAnswers (X : Tx K mg base) : Sp := fun vs H Q _ => ∃ (a : Addr) (ns : List Nat) (cs : List Ut03.Call), vs = [.ref a] ∧ SqL K H a (iv ns) ∧ ns = cs.flatMap enc ∧ cs.length ≤ 30 ∧ (∀ c ∈ cs, sizes c) ∧ (PyFlat.told (playedC Ut03.init cs)).length ≤ 10000000 ∧ LamX.Tabs X.T H ∧
  ∀ (H' : Hp) (p : Addr), H' p = some (.lst ((PyFlat.told (playedC Ut03.init cs)).map V.int)) → Q (.ref p) H'
theorem scAnswers : FnScope nAnswers ["calls"] (defScope sAnswers) := ⟨rfl, rfl, rfl, by decide +kernel, rfl, by decide +kernel, by decide +kernel⟩
/-- ahead of a turn: m calls are left -/
def WAt (X : Tx K mg base) (tl b st r a : Addr) (ns : List Nat) (due : List Int) (m : Nat) (σ : L2.St) (H : Hp) : Prop := ∃ (cs : List Ut03.Call) (g : Ut03.St) (n : Nat) (done : List Int) (v4 : Option V), σ = [some (.ref a), some (.ref r), some (.ref st), some (.ref tl), v4] ∧ m = cs.length ∧ RunAt X tl b st r a ns n g (done.map V.int) H ∧
  ns.drop n = cs.flatMap enc ∧ (∀ c ∈ cs, sizes c) ∧ g.old.length + cs.length ≤ 30 ∧ done ++ PyFlat.told (playedC g cs) = due
theorem Tx.gAnswers (X : Tx K mg base) {f : Addr} {fd : FuncData} (D : DefAt K mg "answers" sAnswers ["calls"] f fd) : FnOk P w K mg base CX0 11 f fd ["calls"] (spAnswers X) := by
  refine D.F.ok scAnswers (fun vs H Q E h => ?_) (fun cdv A outer s H vs Q E hr h => ?_)
  · obtain ⟨a, ns, cs, rfl, _⟩ := h
    rfl
  · obtain ⟨a, ns, cs, rfl, hS, hns, hcl, hsz, hlen, hT, k⟩ := h
    have hr2 : Room 2 _ := hr.mono (by decide)
    have hr1 : Room 1 _ := hr.mono (by decide)
    refine ⟨_, pss_cons (ps_set (i := 1) scAnswers.nd rfl (Or.inl rfl) (pe_make X.Rd.M X.gRdI hr2 rfl X.Rd.g X.Rd.b .nil pass0 (pa_cons (pv 0) pa_nil)))
      (pss_cons (ps_set (i := 2) scAnswers.nd rfl (Or.inl rfl) (pe_make0 X.S.M X.gStI hr2 rfl X.S.g X.S.b .nil pass0))
      (pss_cons (ps_set (i := 3) scAnswers.nd rfl (Or.inl rfl) (pe_lst pa_nil))
      (pss_cons (ps_while PassesOwn.never (pt_not (pt_val (pe_meth0 (pv 1) X.Rd.cl X.rdE.m X.gRdE hr1 X.rdE.b .nil pass0)))
        (pss_cons (ps_set (i := 4) scAnswers.nd rfl (Or.inl rfl) (pe_call X.gNext hr rfl X.next.g X.next.F.kp X.next.b .nil pass0 (pa_cons (pv 2) (pa_cons (pv 1) pa_nil))))
        (pss_cons (ps_expr (pe_bm PySem.F.plainAttrs_list PySem.F.slot_list_append PySem.F.type_list_append mt_append (pv 3) (pa_cons (pe_callB call_len_seq (by rfl) X.B.len PySem.boot_len (pa_cons (pv 4) pa_nil)) pa_nil)))
        (pss_one (ps_expr (pe_bm PySem.F.plainAttrs_list PySem.F.slot_list_extend PySem.F.type_list_extend mt_extend (pv 3) (pa_cons (pv 4) pa_nil)))))))
      (pss_one (ps_ret (pv 3)))))), ?_⟩
    refine ⟨_, rfl, ?_⟩
    intro r dr nr nd ne
    refine ⟨r, dr, a, rfl, upd_same, fun H0 m1 m2 => ⟨rfl, ?_⟩⟩
    have s0 : Same H H0 := Same.made nr nd m2
    intro st ds nst nds nes
    refine ⟨st, ds, rfl, upd_same, fun H1 e b g1 g2 g3 neb hE hB m3 => ⟨rfl, ?_⟩⟩
    have s1 : Same H0 H1 := Same.made nst nds m3
    have fresh : ∀ {c : Addr}, upd (upd H0 ds (.own st)) st (.ins X.CS ds []) c = none → H0 c = none := fun {c} h => by
      have n1 : c ≠ st := fun z => by rw [z, upd_same] at h; cases h
      rw [upd_ne n1] at h
      have n2 : c ≠ ds := fun z => by rw [z, upd_same] at h; cases h
      rw [upd_ne n2] at h
      exact h
    have hb0 : H0 b = none := fresh hB
    refine ⟨Nat.zero_le _, fun tl htl => ?_⟩
    have s2 : Same H1 (upd H1 tl (.lst [])) := Same.new htl
    have s02 := (s0.trans s1).trans s2
    have nbt : b ≠ tl := ne_of_none g3 htl
    have net : e ≠ tl := ne_of_none g2 htl
    have hR : RunAt X tl b st r a ns 0 Ut03.init (([] : List Int).map V.int) (upd H1 tl (.lst [])) := by
      refine ⟨⟨ds, e, [], s2 _ _ g1, s2 _ _ g3, nbt, ne_of_none g1 htl, ⟨[], ?_, .nil⟩, .nil⟩, good_init, Nat.zero_le _, upd_same, hT.ext s02, ⟨dr, (s1.trans s2) _ _ m1⟩, ?_⟩
      · rw [hid_ne net neb, upd_ne net]
        exact g2
      · refine Same.seq (fun c o z => ?_) hS
        have z1 := (s0.trans s1) _ _ z
        rw [hid_ne (ne_of_none z1 htl) (ne_of_none (s0 _ _ z) hb0)]
        exact s2 _ _ z1
    refine ⟨WAt X tl b st r a ns (PyFlat.told (playedC Ut03.init cs)), ⟨cs.length, cs, Ut03.init, 0, [], none, rfl, rfl, hR, hns, hsz, by show 0 + cs.length ≤ 30; omega, rfl⟩, ?_⟩
    clear hR s02 nbt net s2 htl fresh m1 m2 m3 g1 g2 g3 hE hB hb0
    rintro m σ H3 ⟨cs', g, n, done, v4, rfl, rfl, hR, hd, hs, ho, hdue⟩
    obtain ⟨dr', hr0⟩ := hR.rd
    refine ⟨_, rfl, r, dr', _, rfl, hr0, rdF_no _ _ (by decide +kernel) (by decide +kernel), r, a, n, ns, rfl, hR.rd, hR.sqH, _, rfl, ?_⟩
    cases cs' with
    | nil =>
      have hn : ns.length ≤ n := List.drop_eq_nil_iff.mp hd
      refine ifF (by rw [decide_eq_true hn]; rfl) ?_
      refine ⟨_, rfl, k H3 tl ?_⟩
      have e1 : done = PyFlat.told (playedC Ut03.init cs) := by rw [← hdue]; exact (List.append_nil done).symm
      rw [← e1]
      exact hR.told
    | cons c cs' =>
      have hd : ns.drop n = enc c ++ cs'.flatMap enc := hd
      have hn : ¬ ns.length ≤ n := by
        have q := drop_len hd (enc_ne c)
        have q2 : 0 < (enc c).length := List.length_pos_iff.mpr (enc_ne c)
        omega
      refine ifT (by rw [decide_eq_false hn]; rfl) ?_
      refine ⟨WAt X tl b st r a ns (PyFlat.told (playedC Ut03.init cs)) cs'.length, fun σ' H' z => ⟨cs'.length, Nat.lt_succ_self _, z⟩, ?_⟩
      have hdue2 : done ++ (((Ut03.step g c).2.length : Int) :: (Ut03.step g c).2 ++ PyFlat.told (playedC (Ut03.step g c).1 cs')) = PyFlat.told (playedC Ut03.init cs) := hdue
      have hl : done.length + ((Ut03.step g c).2.length + 1) ≤ 10000000 := by
        rw [← hdue2, List.length_append, List.length_append, List.length_cons] at hlen
        omega
      refine ⟨_, rfl, _, rfl, st, r, tl, b, a, n, ns, cs'.flatMap enc, g, done.map V.int, c, rfl, hR, hd, hs c (List.mem_cons_self ..), fun H4 p n' mem told tabs rd hd' sq npt dp => ?_⟩
      refine ⟨_, rfl, .inl ⟨rfl, _, SqL.of told⟩, _, rfl, p, _, rfl, .inl (SqL.of dp), tl, _, _, rfl, rfl, told, small (by rw [List.length_map]; omega), ?_⟩
      refine ⟨_, rfl, .inl ⟨rfl, _, SqL.of upd_same⟩, _, rfl, tl, p, _, _, rfl, rfl, upd_same, (upd_ne npt).trans dp, ?_, ?_⟩
      · refine small' ?_
        rw [List.length_append, List.length_map, List.length_map, List.length_singleton]
        omega
      · obtain ⟨dr4, rd'⟩ := rd
        have nrt : r ≠ tl := ne_of rd' told (by intro z; cases z)
        have hol := old_step g c
        have hol2 := hR.old
        rw [List.length_cons] at ho
        refine ⟨cs', (Ut03.step g c).1, n', done ++ (((Ut03.step g c).2.length : Int) :: (Ut03.step g c).2), _, rfl, rfl, ⟨mem.told.told, good_step c hR.good, by omega, ?_, ((Tk.lst told).trans (Tk.lst upd_same)).tabs tabs, ⟨dr4, (upd_ne nrt).trans ((upd_ne nrt).trans rd')⟩, ?_⟩, hd', fun d hd => hs d (List.mem_cons_of_mem _ hd), by omega, ?_⟩
        · rw [upd_same, List.map_append, List.map_cons, List.append_assoc, List.length_map]
          rfl
        · rw [hid_upd, hid_upd]
          exact sq
        · rw [List.append_assoc]
          exact hdue2
end
end TM

set_option Elab.async false
set_option linter.all false
set_option maxRecDepth 100000
set_option maxHeartbeats 4100000
namespace TM
open PySem PySem.Spec PyProof.Rows L2
section
variable {K : PySem.W.Frag} {h : Heap} {mg : Sg → Option Value}
theorem mkMeth {C f : Addr} {name qual : Sg} {st : Stmt} {ps : List Sg} {od an : Option Addr} {sl : Array (Option Value)} {oc kV dc pm cd ct : Value} (hb : BindOk name qual st ps)
    (a : PySem.W.findIn K (.ref C) name = some (some (.ref f))) (i : PySem.W.isFn K (.ref f) = true) (l : K.lookup f = some ⟨oc, od, .func (PySem.W.fnOf name qual (defArgs st) (defBody st) (defScope st) .none kV dc pm an cd ct), sl⟩) (c : PySem.W.codeIn K cd qual = true) (k : PySem.W.keepIn K (.ref f) = true) :
    ∃ f fd, MethAt K C name qual st ps f fd := by
  have F := fun_mk (st := st) l c k
  exact ⟨f, _, F, F.binds hb, a, i, k⟩
/-- a class that stands under its name, with its __init__ -/
structure ClsAt (K : PySem.W.Frag) (mg : Sg → Option Value) (name qual : Sg) (st : Stmt) (ps : List Sg) (C f : Addr) (fd : FuncData) : Prop where
  cl : Cls K C
  g : mg name = some (.ref C)
  M : Mk K C f
  F : Fun K "__init__" qual st f fd
  b : Binds K fd ps []
theorem mkCls {C f : Addr} {name qual : Sg} {st : Stmt} {ps : List Sg} {od an : Option Addr} {sl : Array (Option Value)} {oc kV dc pm cd ct : Value} (hb : BindOk "__init__" qual st ps) (X : K.In h) (G : h.Ns mainGlobals mg)
    (aC : PySem.W.nsIn K mainGlobals name = some (some (.ref C))) (pg : PySem.W.plainGet K C Str.empty = true) (hd : PySem.W.hasDictIn K C = true) (po : PySem.W.plainOver K C = true) (sa : PySem.W.findIn K (.ref C) "__setattr__" = some (some (.builtin "object.__setattr__")))
    (mk : PySem.W.makesIn K C = true) (kc : PySem.W.keepIn K (.ref C) = true) (a : PySem.W.findIn K (.ref C) "__init__" = some (some (.ref f))) (i : PySem.W.isFn K (.ref f) = true)
    (l : K.lookup f = some ⟨oc, od, .func (PySem.W.fnOf "__init__" qual (defArgs st) (defBody st) (defScope st) .none kV dc pm an cd ct), sl⟩) (c : PySem.W.codeIn K cd qual = true) (k : PySem.W.keepIn K (.ref f) = true) :
    ∃ f fd, ClsAt K mg name qual st ps C f fd := by
  have F := fun_mk (st := st) l c k
  exact ⟨f, _, ⟨pg, hd, po, sa⟩, PySem.W.mg_of X G aC, ⟨mk, a, i, kc⟩, F, F.binds hb⟩
theorem mkHits {f c P : Addr} {od an : Option Addr} {sl : Array (Option Value)} {oc kV dc pm ct : Value} (hb : BindOk "hits_for" "hits_for" sHits pHits) (X : K.In h) (G : h.Ns mainGlobals mg)
    (a : PySem.W.nsIn K mainGlobals "hits_for" = some (some (.ref f))) (l : K.lookup f = some ⟨oc, od, .func (PySem.W.fnOf "hits_for" "hits_for" (defArgs sHits) (defBody sHits) (defScope sHits) .none kV dc pm an (.ref c) ct), sl⟩) (cd : PySem.W.codeIn K (.ref c) "hits_for" = true) (k : PySem.W.keepIn K (.ref f) = true)
    (t : PySem.W.tabIn K "hits_for" = some (c, P)) (n : K.lookup P = none) :
    ∃ f fd c P, DefAt K mg "hits_for" sHits pHits f fd ∧ FunC K "hits_for" sHits f fd c ∧ PySem.W.tabIn K "hits_for" = some (c, P) ∧ K.lookup P = none := by
  have F := fun_mk (st := sHits) l cd k
  exact ⟨f, _, c, P, ⟨F, F.binds hb, PySem.W.mg_of X G a⟩, ⟨_, _, _, _, _, _, _, _, rfl, l, cd⟩, t, n⟩
end
end TM

set_option Elab.async false
set_option linter.all false
set_option maxRecDepth 100000
set_option maxHeartbeats 4100000
namespace TM
open PySem PySem.Spec PyProof.Rows L2
open PySem.W (WData Codec)
/-- what is asked of the def answers, apart from the top -/
def spAnsP (K : PySem.W.Frag) (Pt : Addr) : Sp := fun vs H Q _ => ∃ (a : Addr) (ns : List Nat) (cs : List Ut03.Call), vs = [.ref a] ∧ SqL K H a (iv ns) ∧ ns = cs.flatMap enc ∧ cs.length ≤ 30 ∧ (∀ c ∈ cs, sizes c) ∧ (PyFlat.told (playedC Ut03.init cs)).length ≤ 10000000 ∧ LamX.Tabs [(Pt, lamQ)] H ∧
  ∀ (H' : Hp) (p : Addr), H' p = some (.lst ((PyFlat.told (playedC Ut03.init cs)).map V.int)) → Q (.ref p) H'
theorem iv_nn : ∀ {l : List Int}, (∀ z ∈ l, 0 ≤ z) → iv (nn l) = l.map V.int
  | [], _ => rfl
  | x :: l, h => by
    have ih := iv_nn (l := l) fun z hz => h z (List.mem_cons_of_mem _ hz)
    have hx := h x (List.mem_cons_self ..)
    show V.int ((x.toNat : Nat) : Int) :: iv (nn l) = V.int x :: l.map V.int
    rw [ih, Int.toNat_of_nonneg hx]
theorem spec_ok {K : PySem.W.Frag} {Pt : Addr} (H0 H : Hp) (xs : List V) (a : Codec.denoteAll PySem.Challenge.rw_translations_s01_answers.args) (sm : Same H0 H) (ht : H Pt = some (.tbl #[])) (hask : Codec.app PySem.Challenge.rw_translations_s01_answers.args PySem.Challenge.rw_translations_s01_answers.asked a = true)
    (hx : DwAll K H0 xs (Codec.encAll PySem.Challenge.rw_translations_s01_answers.args a)) :
    spAnsP K Pt xs H (fun v H' => Dw K H' v (PySem.Challenge.rw_translations_s01_answers.ret.enc (Codec.app PySem.Challenge.rw_translations_s01_answers.args PySem.Challenge.rw_translations_s01_answers.f a))) fun _ _ _ => False := by
  have has : PyUt03.answers_asked a.1 = true := hask
  obtain ⟨cs, c1, c2, c3, c4, c5, c6⟩ := asked_is has
  cases hx with
  | cons h1 h2 =>
    cases h2
    cases h1 with
    | lst hs ha =>
      have e := L2.ints_dw a.1 _ ha
      subst e
      refine ⟨_, nn a.1, cs, rfl, ?_, c1, c3, c4, by rw [← c5]; exact c6, fun p hpin => ?_, fun H' p hp => ?_⟩
      · rw [iv_nn c2]
        exact sm.seq hs
      · rw [List.mem_singleton.mp hpin]
        exact LamX.TabS.nil ht
      · rw [← c5] at hp
        exact Dw.lst (L2.SqL.of hp) (L2.dw_ints _)

theorem fin {w : World} {K : PySem.W.Frag} {h : Heap} {mg : Sg → Option Value} {fa : Addr} (KX : K.In h) (hmg : mg "answers" = some (.ref fa)) (hB : Bt mg) (hC : Cs mg) (hG : Ce mg) (hR : Cr mg) (hM : Cm mg)
    (cCA : ∃ C : Addr, (∃ f fd, TM.ClsAt K mg "Ask" "Ask.__init__" TM.sAskI ["self", "ahead", "behind", "client", "sentence"] C f fd) ∧ PySem.W.findIn K (.ref C) "ahead" = some none ∧ PySem.W.findIn K (.ref C) "behind" = some none ∧ PySem.W.findIn K (.ref C) "client" = some none ∧ PySem.W.findIn K (.ref C) "sentence" = some none)
    (cCE : ∃ C : Addr, (∃ f fd, TM.ClsAt K mg "Entry" "Entry.__init__" TM.sEntI ["self", "number", "ask", "translation"] C f fd) ∧ PySem.W.findIn K (.ref C) "number" = some none ∧ PySem.W.findIn K (.ref C) "ask" = some none ∧ PySem.W.findIn K (.ref C) "translation" = some none)
    (cCH : ∃ C : Addr, (∃ f fd, TM.ClsAt K mg "Hit" "Hit.__init__" TM.sHitI ["self", "score", "number", "translation"] C f fd) ∧ PySem.W.findIn K (.ref C) "score" = some none ∧ PySem.W.findIn K (.ref C) "number" = some none ∧ PySem.W.findIn K (.ref C) "translation" = some none)
    (cCR : ∃ C : Addr, (∃ f fd, TM.ClsAt K mg "Reader" "Reader.__init__" TM.sRdI ["self", "numbers"] C f fd) ∧ PySem.W.findIn K (.ref C) "numbers" = some none ∧ PySem.W.findIn K (.ref C) "place" = some none ∧ (∃ f fd, TM.MethAt K C "at_end" "Reader.at_end" TM.sRdE ["self"] f fd) ∧ (∃ f fd, TM.MethAt K C "read_number" "Reader.read_number" TM.sRdN ["self"] f fd) ∧ (∃ f fd, TM.MethAt K C "read_row" "Reader.read_row" TM.sRdR ["self"] f fd) ∧ (∃ f fd, TM.MethAt K C "read_ask" "Reader.read_ask" TM.sRdA ["self"] f fd))
    (cCS : ∃ C : Addr, (∃ f fd, TM.ClsAt K mg "Store" "Store.__init__" TM.sStI ["self"] C f fd) ∧ PySem.W.findIn K (.ref C) "entries" = some none ∧ PySem.W.findIn K (.ref C) "next_number" = some none ∧ PySem.W.findIn K (.ref C) "earlier" = some none ∧ (∃ f fd, TM.MethAt K C "entry_with" "Store.entry_with" TM.sEw ["self", "number"] f fd) ∧ (∃ f fd, TM.MethAt K C "put" "Store.put" TM.sPut ["self", "ask", "translation"] f fd) ∧ (∃ f fd, TM.MethAt K C "take" "Store.take" TM.sTake ["self", "number"] f fd) ∧ (∃ f fd, TM.MethAt K C "find" "Store.find" TM.sFind ["self", "least", "ask"] f fd) ∧ (∃ f fd, TM.MethAt K C "best" "Store.best" TM.sBest ["self", "ask"] f fd) ∧ (∃ f fd, TM.MethAt K C "way" "Store.way" TM.sWayM ["self", "number", "sentence"] f fd) ∧ (∃ f fd, TM.MethAt K C "with_word" "Store.with_word" TM.sWith ["self", "word"] f fd) ∧ (∃ f fd, TM.MethAt K C "fill" "Store.fill" TM.sFill ["self", "least", "asks"] f fd) ∧ (∃ f fd, TM.MethAt K C "entry" "Store.entry" TM.sEntry ["self", "number"] f fd) ∧ (∃ f fd, TM.MethAt K C "count" "Store.count" TM.sCount ["self"] f fd) ∧ (∃ f fd, TM.MethAt K C "undo" "Store.undo" TM.sUndo ["self"] f fd) ∧ (∃ f fd, TM.MethAt K C "change_to" "Store.change_to" TM.sChg ["self", "entries"] f fd))
    (d3 : ∃ f fd, TM.DefAt K mg "is_sentence" TM.sSent ["words"] f fd)
    (d4 : ∃ f fd, TM.DefAt K mg "is_sentence_with_words" TM.sSentW ["words"] f fd)
    (d5 : ∃ f fd, TM.DefAt K mg "distance_rows" TM.sRows ["first", "second"] f fd)
    (d6 : ∃ f fd, TM.DefAt K mg "row_with_word" TM.sRow ["above", "word", "second"] f fd)
    (d7 : ∃ f fd, TM.DefAt K mg "distance_between" TM.sDist ["first", "second"] f fd)
    (d8 : ∃ f fd, TM.DefAt K mg "nearness_of" TM.sNear ["first", "second"] f fd)
    (d9 : ∃ f fd, TM.DefAt K mg "way_between" TM.sWay ["first", "second"] f fd)
    (d10 : ∃ f fd, TM.DefAt K mg "last_step" TM.sStep ["rows", "first", "second"] f fd)
    (d11 : ∃ f fd, TM.DefAt K mg "is_ask" TM.sIsAsk ["ask"] f fd)
    (d12 : ∃ f fd, TM.DefAt K mg "same_neighbours" TM.sSameN ["one", "other"] f fd)
    (d13 : ∃ f fd, TM.DefAt K mg "same_ask" TM.sSameQ ["one", "other"] f fd)
    (d14 : ∃ f fd, TM.DefAt K mg "score_of" TM.sScore ["entry", "ask"] f fd)
    (d16 : ∃ f fd, TM.DefAt K mg "first_of_each_translation" TM.sFirst ["hits"] f fd)
    (d17 : ∃ f fd, TM.DefAt K mg "refusal" TM.sRef ["reason"] f fd)
    (d19 : ∃ f fd, TM.DefAt K mg "told_sentence" TM.sTold ["words"] f fd)
    (d20 : ∃ f fd, TM.DefAt K mg "first_told" TM.sFirstT ["entries", "least", "ask"] f fd)
    (d26 : ∃ f fd, TM.DefAt K mg "asks_in" TM.sAsksIn ["row", "many"] f fd)
    (d39 : ∃ f fd, TM.DefAt K mg "answer_to_next" TM.sNext ["store", "reader"] f fd)
    (d40 : ∃ f fd, TM.DefAt K mg "answer_to_put" TM.sAPut ["store", "reader"] f fd)
    (d41 : ∃ f fd, TM.DefAt K mg "answer_to_find" TM.sAFind ["store", "reader"] f fd)
    (d42 : ∃ f fd, TM.DefAt K mg "answer_to_way" TM.sAWay ["store", "reader"] f fd)
    (d43 : ∃ f fd, TM.DefAt K mg "answer_to_fill" TM.sAFill ["store", "reader"] f fd)
    (d44 : ∃ f fd, TM.DefAt K mg "answer_to_near" TM.sANear ["reader"] f fd)
    (d15 : ∃ f fd c P, DefAt K mg "hits_for" sHits pHits f fd ∧ FunC K "hits_for" sHits f fd c ∧ (PySem.W.CodeHd h c P ∧ h.get? P = some (PySem.W.tabObj #[])) ∧ K.lookup P = none)
    (d45 : ∃ f fd, DefAt K mg "answers" sAnswers ["calls"] f fd) :
    ∃ (fd : FuncData) (cs : List (Addr × Addr)) (sp : Sp), (∀ p ∈ cs, h.get? p.2 = some (PySem.W.tabObj #[])) ∧ (∀ p ∈ cs, K.lookup p.2 = none) ∧ (∀ p ∈ cs, PySem.W.CodeHd h p.1 p.2) ∧
      (∀ (s : Shared) (us : List Value), us.length = (["calls"] : List Sg).length → BindsTo s fd ⟨us, []⟩ ((["calls"] : List Sg).zip us)) ∧
      (∀ (H0 H : Hp) (xs : List V) (a : Codec.denoteAll PySem.Challenge.rw_translations_s01_answers.args), Same H0 H → (∀ p ∈ cs, H p.2 = some (.tbl #[])) → Codec.withinAll PySem.Challenge.rw_translations_s01_answers.args a = true → Codec.app PySem.Challenge.rw_translations_s01_answers.args PySem.Challenge.rw_translations_s01_answers.asked a = true → DwAll K H0 xs (Codec.encAll PySem.Challenge.rw_translations_s01_answers.args a) →
        sp xs H (fun v H' => Dw K H' v (PySem.Challenge.rw_translations_s01_answers.ret.enc (Codec.app PySem.Challenge.rw_translations_s01_answers.args PySem.Challenge.rw_translations_s01_answers.f a))) fun _ _ _ => False) ∧
      ∀ base : Heap, K.In base → base.Ns mainGlobals mg → (∀ p ∈ cs, LamX.TabB base mg p.1 p.2) → FnOk PySem.Challenge.rw_translations_s01_answers.prog w K mg base CX0 11 fa fd ["calls"] sp := by
  obtain ⟨CA, ⟨f0, e0, kCA⟩, nCA1, nCA2, nCA3, nCA4⟩ := cCA
  obtain ⟨CE, ⟨f1, e1, kCE⟩, nCE1, nCE2, nCE3⟩ := cCE
  obtain ⟨CH, ⟨f2, e2, kCH⟩, nCH1, nCH2, nCH3⟩ := cCH
  obtain ⟨CR, ⟨f21, e21, kCR⟩, nCR1, nCR2, ⟨f22, e22, m22⟩, ⟨f23, e23, m23⟩, ⟨f24, e24, m24⟩, ⟨f25, e25, m25⟩⟩ := cCR
  obtain ⟨CS, ⟨f27, e27, kCS⟩, nCS1, nCS2, nCS3, ⟨f18, e18, m18⟩, ⟨f28, e28, m28⟩, ⟨f29, e29, m29⟩, ⟨f30, e30, m30⟩, ⟨f31, e31, m31⟩, ⟨f32, e32, m32⟩, ⟨f33, e33, m33⟩, ⟨f34, e34, m34⟩, ⟨f35, e35, m35⟩, ⟨f36, e36, m36⟩, ⟨f37, e37, m37⟩, ⟨f38, e38, m38⟩⟩ := cCS
  obtain ⟨f3, e3, g3⟩ := d3
  obtain ⟨f4, e4, g4⟩ := d4
  obtain ⟨f5, e5, g5⟩ := d5
  obtain ⟨f6, e6, g6⟩ := d6
  obtain ⟨f7, e7, g7⟩ := d7
  obtain ⟨f8, e8, g8⟩ := d8
  obtain ⟨f9, e9, g9⟩ := d9
  obtain ⟨f10, e10, g10⟩ := d10
  obtain ⟨f11, e11, g11⟩ := d11
  obtain ⟨f12, e12, g12⟩ := d12
  obtain ⟨f13, e13, g13⟩ := d13
  obtain ⟨f14, e14, g14⟩ := d14
  obtain ⟨f16, e16, g16⟩ := d16
  obtain ⟨f17, e17, g17⟩ := d17
  obtain ⟨f19, e19, g19⟩ := d19
  obtain ⟨f20, e20, g20⟩ := d20
  obtain ⟨f26, e26, g26⟩ := d26
  obtain ⟨f39, e39, g39⟩ := d39
  obtain ⟨f40, e40, g40⟩ := d40
  obtain ⟨f41, e41, g41⟩ := d41
  obtain ⟨f42, e42, g42⟩ := d42
  obtain ⟨f43, e43, g43⟩ := d43
  obtain ⟨f44, e44, g44⟩ := d44
  obtain ⟨f15, e15, cH, Pt, g15, u15, ⟨cd, tb⟩, np⟩ := d15
  obtain ⟨f45, e45, g45⟩ := d45
  have ef := Option.some.inj (hmg.symm.trans g45.g)
  injection ef with ef
  subst ef
  refine ⟨e45, [(cH, Pt)], spAnsP K Pt, fun p hpin => ?_, fun p hpin => ?_, fun p hpin => ?_, ?_, ?_, ?_⟩
  · rw [List.mem_singleton.mp hpin]
    exact tb
  · rw [List.mem_singleton.mp hpin]
    exact np
  · rw [List.mem_singleton.mp hpin]
    exact cd
  · intro s us hu
    obtain ⟨oc, od, kV, doc, pm, an, cdv, ct, osl, rfl, lk, hcd⟩ := g45.F.ex
    match us, hu with
    | [_], _ => exact .of_eq rfl
  · intro H0 H xs a sm ht _ hask hx
    exact spec_ok H0 H xs a sm (ht (cH, Pt) (List.mem_singleton.mpr rfl)) hask hx
  · intro base KB NB TB
    let X : Tx K mg base := {
      CA := CA, CE := CE, CH := CH, CR := CR, CS := CS, Pt := Pt, cH := cH, fa := (fun n => [f0, f1, f2, f3, f4, f5, f6, f7, f8, f9, f10, f11, f12, f13, f14, f15, f16, f17, f18, f19, f20, f21, f22, f23, f24, f25, f26, f27, f28, f29, f30, f31, f32, f33, f34, f35, f36, f37, f38, f39, f40, f41, f42, f43, f44].getD n f0),
      fd := (fun n => [e0, e1, e2, e3, e4, e5, e6, e7, e8, e9, e10, e11, e12, e13, e14, e15, e16, e17, e18, e19, e20, e21, e22, e23, e24, e25, e26, e27, e28, e29, e30, e31, e32, e33, e34, e35, e36, e37, e38, e39, e40, e41, e42, e43, e44].getD n e0),
      B := hB, C := hC, G := hG, R := hR, Mm := hM, A := ⟨kCA.cl, nCA1, nCA2, nCA3, nCA4, kCA.g, kCA.M, kCA.F, kCA.b⟩, E := ⟨kCE.cl, nCE1, nCE2, nCE3, kCE.g, kCE.M, kCE.F, kCE.b⟩, Hc := ⟨kCH.cl, nCH1, nCH2, nCH3, kCH.g, kCH.M, kCH.F, kCH.b⟩, Rd := ⟨kCR.cl, nCR1, nCR2, kCR.g, kCR.M, kCR.F, kCR.b⟩, rdE := m22, rdN := m23, rdR := m24, rdA := m25, S := ⟨kCS.cl, nCS1, nCS2, nCS3, kCS.g, kCS.M, kCS.F, kCS.b⟩, ew := m18, putM := m28, takeM := m29, findM := m30, bestM := m31, wayM := m32, withM := m33, fillM := m34, entryM := m35, countM := m36, undoM := m37, chg := m38, sent := g3, sentW := g4, rows := g5, row := g6, dist := g7, near := g8, way := g9, step := g10, isAsk := g11, sameN := g12, sameQ := g13, score := g14, first := g16, ref := g17, told := g19, firstT := g20, asksIn := g26, next := g39, aPut := g40, aFind := g41, aWay := g42, aFill := g43, aNear := g44, hitsF := u15, hits := g15, tb := TB (cH, Pt) (List.mem_singleton.mpr rfl) }
    exact X.gAnswers g45
end TM

set_option Elab.async false
open PySem PySem.W PyProof.Rows
set_option maxRecDepth 100000 in
set_option maxHeartbeats 0 in
theorem PySem.Challenge.cw_translations_s01_answers_holds : PySem.Challenge.rw_translations_s01_answers.Holds := by
  w_on; k_headS; (case hw => exact ⟨[.list [.int 8]], by decide +kernel, by decide +kernel⟩)
  k_fillS
  refine TM.walk_specT (r := PySem.Challenge.rw_translations_s01_answers) (k := 11) (CX := L2.CX0) (ps := ["calls"]) (by decide +kernel) rfl ⟨rfl, by decide, by decide⟩ (fun w h Y => PySem.W.kIn_of Y) ?F (fun _ _ _ _ z => z)
  case F =>
    intro w s0 mg mb fa h Gd Y KX G hmg
    have hB : TM.Bt mg := by
      refine' ⟨PySem.W.mg_none_of KX G ?a1, PySem.W.mg_none_of KX G ?a2, PySem.W.mg_none_of KX G ?a3, PySem.W.mg_none_of KX G ?a4, PySem.W.mg_none_of KX G ?a5, PySem.W.mg_none_of KX G ?a6, PySem.W.mg_none_of KX G ?a7, PySem.W.mg_none_of KX G ?a8, PySem.W.mg_none_of KX G ?a9, PySem.W.mg_none_of KX G ?a10⟩
      (case a1 => k_is); (case a2 => k_is); (case a3 => k_is); (case a4 => k_is); (case a5 => k_is); (case a6 => k_is); (case a7 => k_is); (case a8 => k_is); (case a9 => k_is); (case a10 => k_is)
    have hC : TM.Cs mg := by
      refine' ⟨TM.mkInt KX G ?a1, TM.mkInt KX G ?a2, TM.mkInt KX G ?a3, TM.mkInt KX G ?a4, TM.mkInt KX G ?a5, TM.mkInt KX G ?a6⟩
      (case a1 => k_is); (case a2 => k_is); (case a3 => k_is); (case a4 => k_is); (case a5 => k_is); (case a6 => k_is)
    have hG : TM.Ce mg := by
      refine' ⟨TM.mkInt KX G ?a1, TM.mkInt KX G ?a2, TM.mkInt KX G ?a3, TM.mkInt KX G ?a4, TM.mkInt KX G ?a5⟩
      (case a1 => k_is); (case a2 => k_is); (case a3 => k_is); (case a4 => k_is); (case a5 => k_is)
    have hR : TM.Cr mg := by
      refine' ⟨TM.mkInt KX G ?a1, TM.mkInt KX G ?a2, TM.mkInt KX G ?a3, TM.mkInt KX G ?a4, TM.mkInt KX G ?a5, TM.mkInt KX G ?a6, TM.mkInt KX G ?a7⟩
      (case a1 => k_is); (case a2 => k_is); (case a3 => k_is); (case a4 => k_is); (case a5 => k_is); (case a6 => k_is); (case a7 => k_is)
    have hM : TM.Cm mg := by
      refine' ⟨TM.mkInt KX G ?a1, TM.mkInt KX G ?a2, TM.mkInt KX G ?a3, TM.mkInt KX G ?a4, TM.mkInt KX G ?a5, TM.mkInt KX G ?a6, TM.mkInt KX G ?a7, TM.mkInt KX G ?a8, TM.mkInt KX G ?a9, TM.mkInt KX G ?a10, TM.mkInt KX G ?a11⟩
      (case a1 => k_is); (case a2 => k_is); (case a3 => k_is); (case a4 => k_is); (case a5 => k_is); (case a6 => k_is); (case a7 => k_is); (case a8 => k_is); (case a9 => k_is); (case a10 => k_is); (case a11 => k_is)
    have cCA : ∃ C : Addr, (∃ f fd, TM.ClsAt (PySem.Challenge.cw_translations_s01_answers_holds.heap_1 w.params) mg "Ask" "Ask.__init__" TM.sAskI ["self", "ahead", "behind", "client", "sentence"] C f fd) ∧ PySem.W.findIn (PySem.Challenge.cw_translations_s01_answers_holds.heap_1 w.params) (.ref C) "ahead" = some none ∧ PySem.W.findIn (PySem.Challenge.cw_translations_s01_answers_holds.heap_1 w.params) (.ref C) "behind" = some none ∧ PySem.W.findIn (PySem.Challenge.cw_translations_s01_answers_holds.heap_1 w.params) (.ref C) "client" = some none ∧ PySem.W.findIn (PySem.Challenge.cw_translations_s01_answers_holds.heap_1 w.params) (.ref C) "sentence" = some none := by
      refine' ⟨_, TM.mkCls (fun _ _ _ _ _ _ us hl => match us, hl with | [_, _, _, _, _], _ => rfl) KX G ?aC ?pg ?hd ?po ?sa ?mk ?kc ?a0 ?i0 ?l0 ?c0 ?k0, ?n1, ?n2, ?n3, ?n4⟩
      (case aC => k_is); (case pg => k_is); (case hd => k_is); (case po => k_is); (case sa => k_is); (case mk => k_is); (case kc => k_is); (case a0 => k_is); (case i0 => k_is); (case l0 => k_is); (case c0 => k_is); (case k0 => k_is); (case n1 => k_is); (case n2 => k_is); (case n3 => k_is); (case n4 => k_is)
    have cCE : ∃ C : Addr, (∃ f fd, TM.ClsAt (PySem.Challenge.cw_translations_s01_answers_holds.heap_1 w.params) mg "Entry" "Entry.__init__" TM.sEntI ["self", "number", "ask", "translation"] C f fd) ∧ PySem.W.findIn (PySem.Challenge.cw_translations_s01_answers_holds.heap_1 w.params) (.ref C) "number" = some none ∧ PySem.W.findIn (PySem.Challenge.cw_translations_s01_answers_holds.heap_1 w.params) (.ref C) "ask" = some none ∧ PySem.W.findIn (PySem.Challenge.cw_translations_s01_answers_holds.heap_1 w.params) (.ref C) "translation" = some none := by
      refine' ⟨_, TM.mkCls (fun _ _ _ _ _ _ us hl => match us, hl with | [_, _, _, _], _ => rfl) KX G ?aC ?pg ?hd ?po ?sa ?mk ?kc ?a0 ?i0 ?l0 ?c0 ?k0, ?n1, ?n2, ?n3⟩
      (case aC => k_is); (case pg => k_is); (case hd => k_is); (case po => k_is); (case sa => k_is); (case mk => k_is); (case kc => k_is); (case a0 => k_is); (case i0 => k_is); (case l0 => k_is); (case c0 => k_is); (case k0 => k_is); (case n1 => k_is); (case n2 => k_is); (case n3 => k_is)
    have cCH : ∃ C : Addr, (∃ f fd, TM.ClsAt (PySem.Challenge.cw_translations_s01_answers_holds.heap_1 w.params) mg "Hit" "Hit.__init__" TM.sHitI ["self", "score", "number", "translation"] C f fd) ∧ PySem.W.findIn (PySem.Challenge.cw_translations_s01_answers_holds.heap_1 w.params) (.ref C) "score" = some none ∧ PySem.W.findIn (PySem.Challenge.cw_translations_s01_answers_holds.heap_1 w.params) (.ref C) "number" = some none ∧ PySem.W.findIn (PySem.Challenge.cw_translations_s01_answers_holds.heap_1 w.params) (.ref C) "translation" = some none := by
      refine' ⟨_, TM.mkCls (fun _ _ _ _ _ _ us hl => match us, hl with | [_, _, _, _], _ => rfl) KX G ?aC ?pg ?hd ?po ?sa ?mk ?kc ?a0 ?i0 ?l0 ?c0 ?k0, ?n1, ?n2, ?n3⟩
      (case aC => k_is); (case pg => k_is); (case hd => k_is); (case po => k_is); (case sa => k_is); (case mk => k_is); (case kc => k_is); (case a0 => k_is); (case i0 => k_is); (case l0 => k_is); (case c0 => k_is); (case k0 => k_is); (case n1 => k_is); (case n2 => k_is); (case n3 => k_is)
    have cCR : ∃ C : Addr, (∃ f fd, TM.ClsAt (PySem.Challenge.cw_translations_s01_answers_holds.heap_1 w.params) mg "Reader" "Reader.__init__" TM.sRdI ["self", "numbers"] C f fd) ∧ PySem.W.findIn (PySem.Challenge.cw_translations_s01_answers_holds.heap_1 w.params) (.ref C) "numbers" = some none ∧ PySem.W.findIn (PySem.Challenge.cw_translations_s01_answers_holds.heap_1 w.params) (.ref C) "place" = some none ∧ (∃ f fd, TM.MethAt (PySem.Challenge.cw_translations_s01_answers_holds.heap_1 w.params) C "at_end" "Reader.at_end" TM.sRdE ["self"] f fd) ∧ (∃ f fd, TM.MethAt (PySem.Challenge.cw_translations_s01_answers_holds.heap_1 w.params) C "read_number" "Reader.read_number" TM.sRdN ["self"] f fd) ∧ (∃ f fd, TM.MethAt (PySem.Challenge.cw_translations_s01_answers_holds.heap_1 w.params) C "read_row" "Reader.read_row" TM.sRdR ["self"] f fd) ∧ (∃ f fd, TM.MethAt (PySem.Challenge.cw_translations_s01_answers_holds.heap_1 w.params) C "read_ask" "Reader.read_ask" TM.sRdA ["self"] f fd) := by
      refine' ⟨_, TM.mkCls (fun _ _ _ _ _ _ us hl => match us, hl with | [_, _], _ => rfl) KX G ?aC ?pg ?hd ?po ?sa ?mk ?kc ?a0 ?i0 ?l0 ?c0 ?k0, ?n1, ?n2, TM.mkMeth (fun _ _ _ _ _ _ us hl => match us, hl with | [_], _ => rfl) ?a22 ?i22 ?l22 ?c22 ?k22, TM.mkMeth (fun _ _ _ _ _ _ us hl => match us, hl with | [_], _ => rfl) ?a23 ?i23 ?l23 ?c23 ?k23, TM.mkMeth (fun _ _ _ _ _ _ us hl => match us, hl with | [_], _ => rfl) ?a24 ?i24 ?l24 ?c24 ?k24, TM.mkMeth (fun _ _ _ _ _ _ us hl => match us, hl with | [_], _ => rfl) ?a25 ?i25 ?l25 ?c25 ?k25⟩
      (case aC => k_is); (case pg => k_is); (case hd => k_is); (case po => k_is); (case sa => k_is); (case mk => k_is); (case kc => k_is); (case a0 => k_is); (case i0 => k_is); (case l0 => k_is); (case c0 => k_is); (case k0 => k_is); (case n1 => k_is); (case n2 => k_is); (case a22 => k_is); (case i22 => k_is); (case l22 => k_is); (case c22 => k_is); (case k22 => k_is); (case a23 => k_is); (case i23 => k_is); (case l23 => k_is); (case c23 => k_is); (case k23 => k_is); (case a24 => k_is); (case i24 => k_is); (case l24 => k_is); (case c24 => k_is); (case k24 => k_is); (case a25 => k_is); (case i25 => k_is); (case l25 => k_is); (case c25 => k_is); (case k25 => k_is)
    have cCS : ∃ C : Addr, (∃ f fd, TM.ClsAt (PySem.Challenge.cw_translations_s01_answers_holds.heap_1 w.params) mg "Store" "Store.__init__" TM.sStI ["self"] C f fd) ∧ PySem.W.findIn (PySem.Challenge.cw_translations_s01_answers_holds.heap_1 w.params) (.ref C) "entries" = some none ∧ PySem.W.findIn (PySem.Challenge.cw_translations_s01_answers_holds.heap_1 w.params) (.ref C) "next_number" = some none ∧ PySem.W.findIn (PySem.Challenge.cw_translations_s01_answers_holds.heap_1 w.params) (.ref C) "earlier" = some none ∧ (∃ f fd, TM.MethAt (PySem.Challenge.cw_translations_s01_answers_holds.heap_1 w.params) C "entry_with" "Store.entry_with" TM.sEw ["self", "number"] f fd) ∧ (∃ f fd, TM.MethAt (PySem.Challenge.cw_translations_s01_answers_holds.heap_1 w.params) C "put" "Store.put" TM.sPut ["self", "ask", "translation"] f fd) ∧ (∃ f fd, TM.MethAt (PySem.Challenge.cw_translations_s01_answers_holds.heap_1 w.params) C "take" "Store.take" TM.sTake ["self", "number"] f fd) ∧ (∃ f fd, TM.MethAt (PySem.Challenge.cw_translations_s01_answers_holds.heap_1 w.params) C "find" "Store.find" TM.sFind ["self", "least", "ask"] f fd) ∧ (∃ f fd, TM.MethAt (PySem.Challenge.cw_translations_s01_answers_holds.heap_1 w.params) C "best" "Store.best" TM.sBest ["self", "ask"] f fd) ∧ (∃ f fd, TM.MethAt (PySem.Challenge.cw_translations_s01_answers_holds.heap_1 w.params) C "way" "Store.way" TM.sWayM ["self", "number", "sentence"] f fd) ∧ (∃ f fd, TM.MethAt (PySem.Challenge.cw_translations_s01_answers_holds.heap_1 w.params) C "with_word" "Store.with_word" TM.sWith ["self", "word"] f fd) ∧ (∃ f fd, TM.MethAt (PySem.Challenge.cw_translations_s01_answers_holds.heap_1 w.params) C "fill" "Store.fill" TM.sFill ["self", "least", "asks"] f fd) ∧ (∃ f fd, TM.MethAt (PySem.Challenge.cw_translations_s01_answers_holds.heap_1 w.params) C "entry" "Store.entry" TM.sEntry ["self", "number"] f fd) ∧ (∃ f fd, TM.MethAt (PySem.Challenge.cw_translations_s01_answers_holds.heap_1 w.params) C "count" "Store.count" TM.sCount ["self"] f fd) ∧ (∃ f fd, TM.MethAt (PySem.Challenge.cw_translations_s01_answers_holds.heap_1 w.params) C "undo" "Store.undo" TM.sUndo ["self"] f fd) ∧ (∃ f fd, TM.MethAt (PySem.Challenge.cw_translations_s01_answers_holds.heap_1 w.params) C "change_to" "Store.change_to" TM.sChg ["self", "entries"] f fd) := by
      refine' ⟨_, TM.mkCls (fun _ _ _ _ _ _ us hl => match us, hl with | [_], _ => rfl) KX G ?aC ?pg ?hd ?po ?sa ?mk ?kc ?a0 ?i0 ?l0 ?c0 ?k0, ?n1, ?n2, ?n3, TM.mkMeth (fun _ _ _ _ _ _ us hl => match us, hl with | [_, _], _ => rfl) ?a18 ?i18 ?l18 ?c18 ?k18, TM.mkMeth (fun _ _ _ _ _ _ us hl => match us, hl with | [_, _, _], _ => rfl) ?a28 ?i28 ?l28 ?c28 ?k28, TM.mkMeth (fun _ _ _ _ _ _ us hl => match us, hl with | [_, _], _ => rfl) ?a29 ?i29 ?l29 ?c29 ?k29, TM.mkMeth (fun _ _ _ _ _ _ us hl => match us, hl with | [_, _, _], _ => rfl) ?a30 ?i30 ?l30 ?c30 ?k30, TM.mkMeth (fun _ _ _ _ _ _ us hl => match us, hl with | [_, _], _ => rfl) ?a31 ?i31 ?l31 ?c31 ?k31, TM.mkMeth (fun _ _ _ _ _ _ us hl => match us, hl with | [_, _, _], _ => rfl) ?a32 ?i32 ?l32 ?c32 ?k32, TM.mkMeth (fun _ _ _ _ _ _ us hl => match us, hl with | [_, _], _ => rfl) ?a33 ?i33 ?l33 ?c33 ?k33, TM.mkMeth (fun _ _ _ _ _ _ us hl => match us, hl with | [_, _, _], _ => rfl) ?a34 ?i34 ?l34 ?c34 ?k34, TM.mkMeth (fun _ _ _ _ _ _ us hl => match us, hl with | [_, _], _ => rfl) ?a35 ?i35 ?l35 ?c35 ?k35, TM.mkMeth (fun _ _ _ _ _ _ us hl => match us, hl with | [_], _ => rfl) ?a36 ?i36 ?l36 ?c36 ?k36, TM.mkMeth (fun _ _ _ _ _ _ us hl => match us, hl with | [_], _ => rfl) ?a37 ?i37 ?l37 ?c37 ?k37, TM.mkMeth (fun _ _ _ _ _ _ us hl => match us, hl with | [_, _], _ => rfl) ?a38 ?i38 ?l38 ?c38 ?k38⟩
      (case aC => k_is); (case pg => k_is); (case hd => k_is); (case po => k_is); (case sa => k_is); (case mk => k_is); (case kc => k_is); (case a0 => k_is); (case i0 => k_is); (case l0 => k_is); (case c0 => k_is); (case k0 => k_is); (case n1 => k_is); (case n2 => k_is); (case n3 => k_is); (case a18 => k_is); (case i18 => k_is); (case l18 => k_is); (case c18 => k_is); (case k18 => k_is); (case a28 => k_is); (case i28 => k_is); (case l28 => k_is); (case c28 => k_is); (case k28 => k_is); (case a29 => k_is); (case i29 => k_is); (case l29 => k_is); (case c29 => k_is); (case k29 => k_is); (case a30 => k_is); (case i30 => k_is); (case l30 => k_is); (case c30 => k_is); (case k30 => k_is); (case a31 => k_is); (case i31 => k_is); (case l31 => k_is); (case c31 => k_is); (case k31 => k_is); (case a32 => k_is); (case i32 => k_is); (case l32 => k_is); (case c32 => k_is); (case k32 => k_is); (case a33 => k_is); (case i33 => k_is); (case l33 => k_is); (case c33 => k_is); (case k33 => k_is); (case a34 => k_is); (case i34 => k_is); (case l34 => k_is); (case c34 => k_is); (case k34 => k_is); (case a35 => k_is); (case i35 => k_is); (case l35 => k_is); (case c35 => k_is); (case k35 => k_is); (case a36 => k_is); (case i36 => k_is); (case l36 => k_is); (case c36 => k_is); (case k36 => k_is); (case a37 => k_is); (case i37 => k_is); (case l37 => k_is); (case c37 => k_is); (case k37 => k_is); (case a38 => k_is); (case i38 => k_is); (case l38 => k_is); (case c38 => k_is); (case k38 => k_is)
    have d3 : ∃ f fd, TM.DefAt (PySem.Challenge.cw_translations_s01_answers_holds.heap_1 w.params) mg "is_sentence" TM.sSent ["words"] f fd := by
      refine' TM.mkDef (fun _ _ _ _ _ _ us hl => match us, hl with | [_], _ => rfl) KX G ?a ?l ?c ?k
      (case a => k_is); (case l => k_is); (case c => k_is); (case k => k_is)
    have d4 : ∃ f fd, TM.DefAt (PySem.Challenge.cw_translations_s01_answers_holds.heap_1 w.params) mg "is_sentence_with_words" TM.sSentW ["words"] f fd := by
      refine' TM.mkDef (fun _ _ _ _ _ _ us hl => match us, hl with | [_], _ => rfl) KX G ?a ?l ?c ?k
      (case a => k_is); (case l => k_is); (case c => k_is); (case k => k_is)
    have d5 : ∃ f fd, TM.DefAt (PySem.Challenge.cw_translations_s01_answers_holds.heap_1 w.params) mg "distance_rows" TM.sRows ["first", "second"] f fd := by
      refine' TM.mkDef (fun _ _ _ _ _ _ us hl => match us, hl with | [_, _], _ => rfl) KX G ?a ?l ?c ?k
      (case a => k_is); (case l => k_is); (case c => k_is); (case k => k_is)
    have d6 : ∃ f fd, TM.DefAt (PySem.Challenge.cw_translations_s01_answers_holds.heap_1 w.params) mg "row_with_word" TM.sRow ["above", "word", "second"] f fd := by
      refine' TM.mkDef (fun _ _ _ _ _ _ us hl => match us, hl with | [_, _, _], _ => rfl) KX G ?a ?l ?c ?k
      (case a => k_is); (case l => k_is); (case c => k_is); (case k => k_is)
    have d7 : ∃ f fd, TM.DefAt (PySem.Challenge.cw_translations_s01_answers_holds.heap_1 w.params) mg "distance_between" TM.sDist ["first", "second"] f fd := by
      refine' TM.mkDef (fun _ _ _ _ _ _ us hl => match us, hl with | [_, _], _ => rfl) KX G ?a ?l ?c ?k
      (case a => k_is); (case l => k_is); (case c => k_is); (case k => k_is)
    have d8 : ∃ f fd, TM.DefAt (PySem.Challenge.cw_translations_s01_answers_holds.heap_1 w.params) mg "nearness_of" TM.sNear ["first", "second"] f fd := by
      refine' TM.mkDef (fun _ _ _ _ _ _ us hl => match us, hl with | [_, _], _ => rfl) KX G ?a ?l ?c ?k
      (case a => k_is); (case l => k_is); (case c => k_is); (case k => k_is)
    have d9 : ∃ f fd, TM.DefAt (PySem.Challenge.cw_translations_s01_answers_holds.heap_1 w.params) mg "way_between" TM.sWay ["first", "second"] f fd := by
      refine' TM.mkDef (fun _ _ _ _ _ _ us hl => match us, hl with | [_, _], _ => rfl) KX G ?a ?l ?c ?k
      (case a => k_is); (case l => k_is); (case c => k_is); (case k => k_is)
    have d10 : ∃ f fd, TM.DefAt (PySem.Challenge.cw_translations_s01_answers_holds.heap_1 w.params) mg "last_step" TM.sStep ["rows", "first", "second"] f fd := by
      refine' TM.mkDef (fun _ _ _ _ _ _ us hl => match us, hl with | [_, _, _], _ => rfl) KX G ?a ?l ?c ?k
      (case a => k_is); (case l => k_is); (case c => k_is); (case k => k_is)
    have d11 : ∃ f fd, TM.DefAt (PySem.Challenge.cw_translations_s01_answers_holds.heap_1 w.params) mg "is_ask" TM.sIsAsk ["ask"] f fd := by
      refine' TM.mkDef (fun _ _ _ _ _ _ us hl => match us, hl with | [_], _ => rfl) KX G ?a ?l ?c ?k
      (case a => k_is); (case l => k_is); (case c => k_is); (case k => k_is)
    have d12 : ∃ f fd, TM.DefAt (PySem.Challenge.cw_translations_s01_answers_holds.heap_1 w.params) mg "same_neighbours" TM.sSameN ["one", "other"] f fd := by
      refine' TM.mkDef (fun _ _ _ _ _ _ us hl => match us, hl with | [_, _], _ => rfl) KX G ?a ?l ?c ?k
      (case a => k_is); (case l => k_is); (case c => k_is); (case k => k_is)
    have d13 : ∃ f fd, TM.DefAt (PySem.Challenge.cw_translations_s01_answers_holds.heap_1 w.params) mg "same_ask" TM.sSameQ ["one", "other"] f fd := by
      refine' TM.mkDef (fun _ _ _ _ _ _ us hl => match us, hl with | [_, _], _ => rfl) KX G ?a ?l ?c ?k
      (case a => k_is); (case l => k_is); (case c => k_is); (case k => k_is)
    have d14 : ∃ f fd, TM.DefAt (PySem.Challenge.cw_translations_s01_answers_holds.heap_1 w.params) mg "score_of" TM.sScore ["entry", "ask"] f fd := by
      refine' TM.mkDef (fun _ _ _ _ _ _ us hl => match us, hl with | [_, _], _ => rfl) KX G ?a ?l ?c ?k
      (case a => k_is); (case l => k_is); (case c => k_is); (case k => k_is)
    have d16 : ∃ f fd, TM.DefAt (PySem.Challenge.cw_translations_s01_answers_holds.heap_1 w.params) mg "first_of_each_translation" TM.sFirst ["hits"] f fd := by
      refine' TM.mkDef (fun _ _ _ _ _ _ us hl => match us, hl with | [_], _ => rfl) KX G ?a ?l ?c ?k
      (case a => k_is); (case l => k_is); (case c => k_is); (case k => k_is)
    have d17 : ∃ f fd, TM.DefAt (PySem.Challenge.cw_translations_s01_answers_holds.heap_1 w.params) mg "refusal" TM.sRef ["reason"] f fd := by
      refine' TM.mkDef (fun _ _ _ _ _ _ us hl => match us, hl with | [_], _ => rfl) KX G ?a ?l ?c ?k
      (case a => k_is); (case l => k_is); (case c => k_is); (case k => k_is)
    have d19 : ∃ f fd, TM.DefAt (PySem.Challenge.cw_translations_s01_answers_holds.heap_1 w.params) mg "told_sentence" TM.sTold ["words"] f fd := by
      refine' TM.mkDef (fun _ _ _ _ _ _ us hl => match us, hl with | [_], _ => rfl) KX G ?a ?l ?c ?k
      (case a => k_is); (case l => k_is); (case c => k_is); (case k => k_is)
    have d20 : ∃ f fd, TM.DefAt (PySem.Challenge.cw_translations_s01_answers_holds.heap_1 w.params) mg "first_told" TM.sFirstT ["entries", "least", "ask"] f fd := by
      refine' TM.mkDef (fun _ _ _ _ _ _ us hl => match us, hl with | [_, _, _], _ => rfl) KX G ?a ?l ?c ?k
      (case a => k_is); (case l => k_is); (case c => k_is); (case k => k_is)
    have d26 : ∃ f fd, TM.DefAt (PySem.Challenge.cw_translations_s01_answers_holds.heap_1 w.params) mg "asks_in" TM.sAsksIn ["row", "many"] f fd := by
      refine' TM.mkDef (fun _ _ _ _ _ _ us hl => match us, hl with | [_, _], _ => rfl) KX G ?a ?l ?c ?k
      (case a => k_is); (case l => k_is); (case c => k_is); (case k => k_is)
    have d39 : ∃ f fd, TM.DefAt (PySem.Challenge.cw_translations_s01_answers_holds.heap_1 w.params) mg "answer_to_next" TM.sNext ["store", "reader"] f fd := by
      refine' TM.mkDef (fun _ _ _ _ _ _ us hl => match us, hl with | [_, _], _ => rfl) KX G ?a ?l ?c ?k
      (case a => k_is); (case l => k_is); (case c => k_is); (case k => k_is)
    have d40 : ∃ f fd, TM.DefAt (PySem.Challenge.cw_translations_s01_answers_holds.heap_1 w.params) mg "answer_to_put" TM.sAPut ["store", "reader"] f fd := by
      refine' TM.mkDef (fun _ _ _ _ _ _ us hl => match us, hl with | [_, _], _ => rfl) KX G ?a ?l ?c ?k
      (case a => k_is); (case l => k_is); (case c => k_is); (case k => k_is)
    have d41 : ∃ f fd, TM.DefAt (PySem.Challenge.cw_translations_s01_answers_holds.heap_1 w.params) mg "answer_to_find" TM.sAFind ["store", "reader"] f fd := by
      refine' TM.mkDef (fun _ _ _ _ _ _ us hl => match us, hl with | [_, _], _ => rfl) KX G ?a ?l ?c ?k
      (case a => k_is); (case l => k_is); (case c => k_is); (case k => k_is)
    have d42 : ∃ f fd, TM.DefAt (PySem.Challenge.cw_translations_s01_answers_holds.heap_1 w.params) mg "answer_to_way" TM.sAWay ["store", "reader"] f fd := by
      refine' TM.mkDef (fun _ _ _ _ _ _ us hl => match us, hl with | [_, _], _ => rfl) KX G ?a ?l ?c ?k
      (case a => k_is); (case l => k_is); (case c => k_is); (case k => k_is)
    have d43 : ∃ f fd, TM.DefAt (PySem.Challenge.cw_translations_s01_answers_holds.heap_1 w.params) mg "answer_to_fill" TM.sAFill ["store", "reader"] f fd := by
      refine' TM.mkDef (fun _ _ _ _ _ _ us hl => match us, hl with | [_, _], _ => rfl) KX G ?a ?l ?c ?k
      (case a => k_is); (case l => k_is); (case c => k_is); (case k => k_is)
    have d44 : ∃ f fd, TM.DefAt (PySem.Challenge.cw_translations_s01_answers_holds.heap_1 w.params) mg "answer_to_near" TM.sANear ["reader"] f fd := by
      refine' TM.mkDef (fun _ _ _ _ _ _ us hl => match us, hl with | [_], _ => rfl) KX G ?a ?l ?c ?k
      (case a => k_is); (case l => k_is); (case c => k_is); (case k => k_is)
    have d45 : ∃ f fd, TM.DefAt (PySem.Challenge.cw_translations_s01_answers_holds.heap_1 w.params) mg "answers" TM.sAnswers ["calls"] f fd := by
      refine' TM.mkDef (fun _ _ _ _ _ _ us hl => match us, hl with | [_], _ => rfl) KX G ?a ?l ?c ?k
      (case a => k_is); (case l => k_is); (case c => k_is); (case k => k_is)
    have d15 : ∃ f fd c P, TM.DefAt (PySem.Challenge.cw_translations_s01_answers_holds.heap_1 w.params) mg "hits_for" TM.sHits TM.pHits f fd ∧ TM.FunC (PySem.Challenge.cw_translations_s01_answers_holds.heap_1 w.params) "hits_for" TM.sHits f fd c ∧ PySem.W.tabIn (PySem.Challenge.cw_translations_s01_answers_holds.heap_1 w.params) "hits_for" = some (c, P) ∧ List.lookup P (PySem.Challenge.cw_translations_s01_answers_holds.heap_1 w.params) = none := by
      refine' TM.mkHits (fun _ _ _ _ _ _ us hl => match us, hl with | [_, _, _], _ => rfl) KX G ?a ?l ?c ?k ?t ?n
      (case a => k_is); (case l => k_is); (case c => k_is); (case k => k_is)
      (case t => first | k_is | rfl)
      (case n => first | k_is | rfl)
    obtain ⟨f15, e15, cH, Pt, g15, u15, t15, n15⟩ := d15
    have tb := PySem.W.tab_of Gd.T KX (by rfl) t15
    exact TM.fin KX hmg hB hC hG hR hM cCA cCE cCH cCR cCS d3 d4 d5 d6 d7 d8 d9 d10 d11 d12 d13 d14 d16 d17 d19 d20 d26 d39 d40 d41 d42 d43 d44 ⟨f15, e15, cH, Pt, g15, u15, tb, n15⟩ d45

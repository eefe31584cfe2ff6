import PyProof.Rows.All
import Wide.All
import OpenK.AllK
import Wide.FinOn
import Open.SpecLaws
import KE.OsGo
import HandS.ForSpec
import HandS.ForMost
import HandS.Zip
import PySem.Challenge.RW_picturefile_s01_answers
set_option Elab.async false
set_option linter.all false
section
/-! The mathematics of short forms: the specification's functions without their fuel. -/
namespace Pf
open Ie11
abbrev NL := List Nat

/-! ### runs -/
theorem runLength_cons (a : Nat) (l : NL) : runLength (a :: l) = ((a :: l).takeWhile fun x => x == a).length := rfl
theorem runLength_le : ∀ l : NL, runLength l ≤ l.length
  | [] => Nat.le_refl _
  | a :: l => by rw [runLength_cons]; exact (List.takeWhile_sublist _).length_le
theorem runLength_pos (a : Nat) (l : NL) : 1 ≤ runLength (a :: l) := by
  rw [runLength_cons, List.takeWhile_cons]; simp
theorem tw_ge (a : Nat) : ∀ (l : NL) (i : Nat), i ≤ l.length → (∀ j, j < i → l[j]? = some a) → i ≤ (l.takeWhile fun x => x == a).length
  | _, 0, _, _ => Nat.zero_le _
  | [], i + 1, h, _ => by simp at h
  | x :: l, i + 1, h, hj => by
    have e : x = a := by simpa using hj 0 (by omega)
    subst e
    rw [List.takeWhile_cons]
    simp only [beq_self_eq_true, if_true, List.length_cons]
    have := tw_ge x l i (by simpa using h) (fun j hh => by simpa using hj (j + 1) (by omega))
    omega
theorem tw_le (a : Nat) : ∀ (l : NL) (i : Nat), l[i]? ≠ some a → (l.takeWhile fun x => x == a).length ≤ i
  | [], i, _ => by simp
  | x :: l, 0, h => by
    have e : x ≠ a := by simpa using h
    rw [List.takeWhile_cons]
    simp [e]
  | x :: l, i + 1, h => by
    rw [List.takeWhile_cons]
    by_cases e : x = a
    · subst e
      simp only [beq_self_eq_true, if_true, List.length_cons]
      have := tw_le x l i (by simpa using h)
      omega
    · simp [e]
/-- the loop of alike_from at its end -/
theorem run_end {l : NL} {a : Nat} {i : Nat} (h0 : l[0]? = some a) (hi : i ≤ min l.length 130) (hj : ∀ j, j < i → l[j]? = some a) (he : ¬ (i < min l.length 130 ∧ l[i]? = some a)) : i = min 130 (runLength l) := by
  cases l with
  | nil => simp at h0
  | cons b l =>
    have e : b = a := by simpa using h0
    subst e
    rw [runLength_cons]
    have h1 := tw_ge b (b :: l) i (by omega) hj
    have h3 : ((b :: l).takeWhile fun x => x == b).length ≤ (b :: l).length := runLength_le (b :: l)
    by_cases c : i < min (b :: l).length 130
    · have h2 := tw_le b (b :: l) i (fun q => he ⟨c, q⟩)
      omega
    · omega

/-! ### plain stretches -/
theorem plain_le : ∀ (k : Nat) (l : NL), plainLength k l ≤ l.length
  | 0, l => Nat.zero_le _
  | k + 1, [] => Nat.le_refl _
  | k + 1, a :: l => by
    rw [plainLength]
    have := plain_le k l
    split
    · exact Nat.zero_le _
    · simp only [List.length_cons]; omega
theorem plain_ge : ∀ (k : Nat) (l : NL) (i : Nat), l.length ≤ k → i ≤ l.length → (∀ j, j < i → runLength (l.drop j) < 3) → i ≤ plainLength k l
  | _, _, 0, _, _, _ => Nat.zero_le _
  | 0, l, i + 1, hk, hi, _ => by omega
  | k + 1, [], i + 1, _, hi, _ => by simp at hi
  | k + 1, a :: l, i + 1, hk, hi, hj => by
    rw [plainLength, if_neg (by have := hj 0 (by omega); rw [List.drop_zero] at this; omega)]
    have := plain_ge k l i (by simp at hk; omega) (by simp at hi; omega) (fun j h => by simpa using hj (j + 1) (by omega))
    omega
theorem plain_stop : ∀ (k : Nat) (l : NL) (i : Nat), 3 ≤ runLength (l.drop i) → plainLength k l ≤ i
  | 0, l, i, _ => Nat.zero_le _
  | k + 1, [], i, _ => Nat.zero_le _
  | k + 1, a :: l, 0, h => by
    rw [List.drop_zero] at h
    rw [plainLength, if_pos h]
    exact Nat.le_refl _
  | k + 1, a :: l, i + 1, h => by
    rw [plainLength]
    have := plain_stop k l i (by simpa using h)
    split <;> omega
/-- the loop of unlike_from at its end -/
theorem plain_end {l : NL} {k i : Nat} (hk : l.length ≤ k) (h1 : 1 ≤ i) (hi : i ≤ min l.length 128) (hj : ∀ j, j < i → runLength (l.drop j) < 3) (he : ¬ (i < min l.length 128 ∧ runLength (l.drop i) < 3)) : i = min 128 (plainLength k l) := by
  have a := plain_ge k l i hk (by omega) hj
  have b := plain_le k l
  by_cases c : i < min l.length 128
  · have := plain_stop k l i (by by_cases q : runLength (l.drop i) < 3; exact absurd ⟨c, q⟩ he; omega)
    omega
  · omega
theorem plain_pos {a : Nat} {l : NL} (h : ¬ 3 ≤ runLength (a :: l)) : 1 ≤ plainLength (l.length + 1) (a :: l) := by
  rw [plainLength, if_neg h]; omega

/-! ### in short -/
theorem short_nil (k : Nat) : short k [] = [] := by cases k <;> rfl
theorem short_fuel : ∀ (k : Nat) (l : NL), l.length ≤ k → short k l = shortOf l := by
  intro k
  induction k using Nat.strongRecOn with
  | _ k ih =>
    intro l h
    cases l with
    | nil => rw [short_nil]; rfl
    | cons a l =>
      cases k with
      | zero => simp at h
      | succ k =>
        simp only [List.length_cons] at h
        unfold shortOf
        simp only [List.length_cons]
        rw [short, short]
        have hr := runLength_pos a l
        split
        · rename_i c
          rw [ih k (by omega) _ (by rw [List.length_drop, List.length_cons]; omega)]
          by_cases e : l.length = k
          · rw [e, ih k (by omega) _ (by rw [List.length_drop, List.length_cons]; omega)]
          · rw [ih l.length (by omega) _ (by rw [List.length_drop, List.length_cons]; omega)]
        · rename_i c
          have hp : 1 ≤ plainLength (l.length + 1) (a :: l) := plain_pos (by omega)
          simp only []
          rw [ih k (by omega) _ (by rw [List.length_drop, List.length_cons]; omega)]
          by_cases e : l.length = k
          · rw [e]; rw [e] at hp; rw [ih k (by omega) _ (by rw [List.length_drop, List.length_cons]; omega)]
          · rw [ih l.length (by omega) _ (by rw [List.length_drop, List.length_cons]; omega)]
theorem shortOf_nil : shortOf [] = [] := rfl
theorem shortOf_run {l : NL} {a n : Nat} (h0 : l[0]? = some a) (hn : n = min 130 (runLength l)) (h3 : 3 ≤ n) : shortOf l = (125 + n) :: a :: shortOf (l.drop n) := by
  cases l with
  | nil => simp at h0
  | cons b l =>
    have e : b = a := by simpa using h0
    subst e
    show short (l.length + 1) (b :: l) = _
    rw [short]
    simp only []
    rw [← hn, if_pos h3, short_fuel _ _ (by rw [List.length_drop, List.length_cons]; omega)]
theorem shortOf_plain {l : NL} {m : Nat} (hl : l ≠ []) (h3 : runLength l < 3) (hm : m = min 128 (plainLength l.length l)) : shortOf l = (m - 1) :: (l.take m ++ shortOf (l.drop m)) := by
  cases l with
  | nil => exact absurd rfl hl
  | cons b l =>
    show short (l.length + 1) (b :: l) = _
    have hp := plain_pos (a := b) (l := l) (by omega)
    rw [short]
    simp only []
    rw [if_neg (by omega)]
    simp only [List.length_cons] at hm
    rw [← hm, short_fuel _ _ (by rw [List.length_drop, List.length_cons]; omega)]
theorem shortOf_len : ∀ (n : Nat) (l : NL), l.length ≤ n → (shortOf l).length ≤ 2 * l.length := by
  intro n
  induction n with
  | zero => intro l h; have : l = [] := List.length_eq_zero_iff.mp (by omega); subst this; rw [shortOf_nil]; simp
  | succ n ih =>
    intro l h
    cases l with
    | nil => rw [shortOf_nil]; simp
    | cons a l =>
      have hr := runLength_pos a l
      have hr2 := runLength_le (a :: l)
      by_cases c : runLength (a :: l) < 3
      · rw [shortOf_plain (by simp) c rfl]
        have hp := plain_pos (a := a) (l := l) (by omega)
        have hp2 := plain_le (l.length + 1) (a :: l)
        simp only [List.length_cons] at *
        have := ih ((a :: l).drop (min 128 (plainLength (l.length + 1) (a :: l)))) (by rw [List.length_drop, List.length_cons]; omega)
        rw [List.length_append, List.length_take, List.length_cons]
        rw [List.length_drop, List.length_cons] at this
        omega
      · rw [shortOf_run (a := a) rfl rfl (by omega)]
        have := ih ((a :: l).drop (min 130 (runLength (a :: l)))) (by rw [List.length_drop]; simp only [List.length_cons] at *; omega)
        rw [List.length_drop] at this
        simp only [List.length_cons] at *
        omega

/-! ### read -/
/-- the first stretch, and what is behind it -/
def stretch : NL → Option (NL × NL)
  | c :: x :: t => if 128 ≤ c then some (List.replicate (c - 125) x, t) else if t.length < c then none else some ((x :: t).take (c + 1), (x :: t).drop (c + 1))
  | _ => none
theorem stretch_pos {b x r : NL} (h : stretch b = some (x, r)) : 1 ≤ x.length := by
  unfold stretch at h
  split at h
  · split at h
    · have e := (Prod.mk.inj (Option.some.inj h)).1
      rw [← e, List.length_replicate]; omega
    · split at h
      · simp at h
      · have e := (Prod.mk.inj (Option.some.inj h)).1
        rw [← e, List.length_take, List.length_cons]; omega
  · simp at h
theorem long_zero (k : Nat) (b : NL) : long k 0 b = some ([], b) := by cases k <;> rfl
theorem long_step {k n : Nat} (b : NL) (h : n ≠ 0) : long (k + 1) n b = (stretch b).bind fun s => if n < s.1.length then none else (long k (n - s.1.length) s.2).map fun q => (s.1 ++ q.1, q.2) := by
  match b with
  | [] => rw [long.eq_def]; simp only []; rw [if_neg h]; rfl
  | [c] =>
    rw [long.eq_def]; simp only []; rw [if_neg h]
    simp only [stretch, List.length_nil, Option.bind_none]
    split
    · rw [if_pos (by omega)]
    · rfl
  | c :: x :: t =>
    rw [long.eq_def]; simp only []; rw [if_neg h]
    by_cases hc : c < 128
    · have hst : stretch (c :: x :: t) = if t.length < c then none else some ((x :: t).take (c + 1), (x :: t).drop (c + 1)) := by
        rw [stretch, if_neg (by omega)]
      rw [if_pos hc, hst]
      by_cases ht : t.length < c
      · rw [if_pos ht, if_pos (by right; simp only [List.length_cons]; omega)]; rfl
      · rw [if_neg ht]
        have hm : ((x :: t).take (c + 1)).length = c + 1 := by rw [List.length_take, List.length_cons]; omega
        rw [Option.bind_some]
        simp only [hm]
        by_cases hn : n < c + 1
        · rw [if_pos (Or.inl hn), if_pos hn]
        · rw [if_neg (by simp only [List.length_cons]; omega), if_neg hn]
    · have hst : stretch (c :: x :: t) = some (List.replicate (c - 125) x, t) := by
        rw [stretch, if_pos (by omega)]
      rw [if_neg hc, hst, Option.bind_some]
      generalize c - 125 = m
      simp only [List.length_replicate]
theorem long_fuel : ∀ (k n : Nat) (b : NL), n ≤ k → long k n b = long n n b := by
  intro k
  induction k using Nat.strongRecOn with
  | _ k ih =>
    intro n b h
    by_cases e : n = 0
    · subst e; rw [long_zero, long_zero]
    · obtain ⟨k, rfl⟩ : ∃ j, k = j + 1 := ⟨k - 1, by omega⟩
      obtain ⟨m, rfl⟩ : ∃ j, n = j + 1 := ⟨n - 1, by omega⟩
      rw [long_step b e, long_step b e]
      cases hs : stretch b with
      | none => rfl
      | some s =>
        have hp := stretch_pos (x := s.1) (r := s.2) hs
        simp only [Option.bind_some]
        split
        · rfl
        · rw [ih k (by omega) _ _ (by omega)]
          by_cases q : m = k
          · subst q; rw [ih m (by omega) _ _ (by omega)]
          · rw [ih m (by omega) _ _ (by omega)]
theorem long_eq {n : Nat} (b : NL) (h : n ≠ 0) : long n n b = (stretch b).bind fun s => if n < s.1.length then none else (long (n - s.1.length) (n - s.1.length) s.2).map fun q => (s.1 ++ q.1, q.2) := by
  obtain ⟨m, rfl⟩ : ∃ j, n = j + 1 := ⟨n - 1, by omega⟩
  rw [long_step b h]
  cases hs : stretch b with
  | none => rfl
  | some s =>
    have hp := stretch_pos (x := s.1) (r := s.2) hs
    simp only [Option.bind_some]
    rw [long_fuel m _ _ (by omega)]
theorem long_len : ∀ (n m : Nat) (b : NL) (q : NL × NL), m ≤ n → long m m b = some q → q.1.length = m
  | n, 0, b, q, _, h => by rw [long_zero] at h; cases h; rfl
  | 0, m + 1, b, q, hm, _ => by omega
  | n + 1, m + 1, b, q, hm, h => by
    rw [long_eq b (by omega)] at h
    cases hs : stretch b with
    | none => rw [hs] at h; cases h
    | some s =>
      have hp := stretch_pos (x := s.1) (r := s.2) hs
      rw [hs] at h
      simp only [Option.bind_some] at h
      split at h
      · cases h
      · rename_i c
        cases hl : long (m + 1 - s.1.length) (m + 1 - s.1.length) s.2 with
        | none => rw [hl] at h; cases h
        | some z =>
          rw [hl] at h
          cases h
          have := long_len n _ _ _ (by omega) hl
          simp only [List.length_append]
          omega
/-- read_short's loop: what is told so far, and what the rest tells -/
def Reads (n : Nat) (b acc rest : NL) : Prop := (acc.length ≤ n → long n n b = (long (n - acc.length) (n - acc.length) rest).map fun q => (acc ++ q.1, q.2)) ∧ (n < acc.length → long n n b = none)
theorem Reads.start (n : Nat) (b : NL) : Reads n b [] b := ⟨fun _ => by simp only [List.length_nil, Nat.sub_zero, List.nil_append]; cases long n n b <;> rfl, fun h => absurd h (Nat.not_lt_zero _)⟩
theorem Reads.step {n : Nat} {b acc rest : NL} {s : NL × NL} (R : Reads n b acc rest) (h : acc.length < n) (hs : stretch rest = some s) : Reads n b (acc ++ s.1) s.2 := by
  have e := R.1 (by omega)
  rw [long_eq rest (by omega), hs] at e
  simp only [Option.bind_some] at e
  refine ⟨fun h2 => ?_, fun h2 => ?_⟩
  · rw [List.length_append] at h2
    rw [if_neg (by omega)] at e
    rw [e, List.length_append, Nat.sub_sub]
    cases long (n - (acc.length + s.1.length)) (n - (acc.length + s.1.length)) s.2 with
    | none => rfl
    | some q => simp only [Option.map_some, List.append_assoc]
  · rw [List.length_append] at h2
    rw [if_pos (by omega)] at e
    exact e
theorem Reads.no {n : Nat} {b acc rest : NL} (R : Reads n b acc rest) (h : acc.length < n) (hs : stretch rest = none) : long n n b = none := by
  have e := R.1 (by omega)
  rw [long_eq rest (by omega), hs] at e
  exact e
theorem Reads.done {n : Nat} {b acc rest : NL} (R : Reads n b acc rest) (h : acc.length = n) : long n n b = some (acc, rest) := by
  have e := R.1 (by omega)
  rw [h, Nat.sub_self, long_zero] at e
  rw [e, Option.map_some, List.append_nil]
theorem Reads.over {n : Nat} {b acc rest : NL} (R : Reads n b acc rest) (h : n < acc.length) : long n n b = none := R.2 h
end Pf
end
section
/-! The mathematics of rows, parts and files. -/
namespace Pf
open Ie11

/-! ### rows -/
theorem getD_rep (w j : Nat) : (List.replicate w 0).getD j 0 = 0 := by
  rw [List.getD_eq_getElem?_getD, List.getElem?_replicate]
  split <;> rfl
theorem lessAbove_nil (w : Nat) (row : NL) : lessAbove [] row = lessAbove (List.replicate w 0) row := by
  unfold lessAbove
  simp only [getD_rep]
  rfl
theorem backAbove_nil (w : Nat) (row : NL) : backAbove [] row = backAbove (List.replicate w 0) row := by
  unfold backAbove
  simp only [getD_rep]
  rfl
theorem way_nil (m w : Nat) (row : NL) : way m [] row = way m (List.replicate w 0) row := by
  unfold way
  split
  · rfl
  · rfl
  · exact lessAbove_nil w row
theorem back_nil (m w : Nat) (ds : NL) : back m [] ds = back m (List.replicate w 0) ds := by
  unfold back
  split
  · rfl
  · rfl
  · exact backAbove_nil w ds
theorem lessAbove_get (above row : NL) (i : Nat) (x y : Nat) (hx : row[i]? = some x) (hy : above[i]? = some y) : (lessAbove above row)[i]? = some ((x + 256 - y) % 256) := by
  unfold lessAbove
  rw [List.getElem?_map, List.getElem?_zipIdx, hx]
  simp [List.getD_eq_getElem?_getD, hy]
theorem lessAbove_len (above row : NL) : (lessAbove above row).length = row.length := by
  unfold lessAbove
  rw [List.length_map, List.length_zipIdx]
theorem backAbove_get (above ds : NL) (i : Nat) (x y : Nat) (hx : ds[i]? = some x) (hy : above[i]? = some y) : (backAbove above ds)[i]? = some ((x + y) % 256) := by
  unfold backAbove
  rw [List.getElem?_map, List.getElem?_zipIdx, hx]
  simp [List.getD_eq_getElem?_getD, hy, Nat.add_comm]
theorem backAbove_len (above ds : NL) : (backAbove above ds).length = ds.length := by
  unfold backAbove
  rw [List.length_map, List.length_zipIdx]
theorem lessBefore_len : ∀ (p : Nat) (l : NL), (lessBefore p l).length = l.length
  | _, [] => rfl
  | p, x :: l => by rw [lessBefore, List.length_cons, List.length_cons, lessBefore_len x l]
theorem lessBefore_get : ∀ (p : Nat) (row : NL) (i : Nat) (x y : Nat), row[i]? = some x → (p :: row)[i]? = some y → (lessBefore p row)[i]? = some ((x + 256 - y) % 256)
  | _, [], i, x, y, h, _ => by simp at h
  | p, a :: l, 0, x, y, h, h2 => by
    have e1 : a = x := by simpa using h
    have e2 : p = y := by simpa using h2
    subst e1 e2
    rfl
  | p, a :: l, i + 1, x, y, h, h2 => by
    rw [lessBefore]
    rw [List.getElem?_cons_succ] at h h2 ⊢
    exact lessBefore_get a l i x y h h2
theorem backBefore_len : ∀ (p : Nat) (l : NL), (backBefore p l).length = l.length
  | _, [] => rfl
  | p, x :: l => by rw [backBefore]; simp only [List.length_cons]; rw [backBefore_len _ l]
/-- added_up's loop -/
def upTo (ds : NL) : NL × Nat := ds.foldl (fun s x => (s.1 ++ [(s.2 + x) % 256], (s.2 + x) % 256)) ([], 0)
theorem up_acc : ∀ (ds acc : NL) (p : Nat), (ds.foldl (fun (s : NL × Nat) x => (s.1 ++ [(s.2 + x) % 256], (s.2 + x) % 256)) (acc, p)).1 = acc ++ backBefore p ds
  | [], acc, p => by simp [backBefore]
  | x :: ds, acc, p => by
    rw [List.foldl_cons, up_acc ds, backBefore]
    simp
theorem upTo_eq (ds : NL) : (upTo ds).1 = backBefore 0 ds := by
  unfold upTo
  rw [up_acc]
  rfl
theorem take_snoc {α : Type} : ∀ {l : List α} {i : Nat} {x : α}, l[i]? = some x → l.take (i + 1) = l.take i ++ [x] := by
  intro l i x h
  rw [List.take_add_one, h]
  rfl
theorem upTo_snoc (ds : NL) (x : Nat) : upTo (ds ++ [x]) = ((upTo ds).1 ++ [((upTo ds).2 + x) % 256], ((upTo ds).2 + x) % 256) := by
  unfold upTo
  rw [List.foldl_append]
  rfl
/-- a row as it is told: the best of the first m + 1 ways -/
def rowOf (above row : NL) : NL := bestWay above row :: shortOf (way (bestWay above row) above row)
def told (m : Nat) (above row : NL) : NL := m :: shortOf (way m above row)
def bestOf (above row : NL) : NL := let b1 := if (told 1 above row).length < (told 0 above row).length then told 1 above row else told 0 above row
  if (told 2 above row).length < b1.length then told 2 above row else b1
theorem bestOf_eq (above row : NL) : bestOf above row = rowOf above row := by
  unfold bestOf rowOf bestWay
  simp only [List.foldl_cons, List.foldl_nil]
  unfold told
  simp only [List.length_cons, Nat.add_lt_add_iff_right]
  by_cases h1 : (shortOf (way 1 above row)).length < (shortOf (way 0 above row)).length
  · simp only [if_pos h1, List.length_cons, Nat.add_lt_add_iff_right]
    split <;> rfl
  · simp only [if_neg h1, List.length_cons, Nat.add_lt_add_iff_right]
    split <;> rfl
theorem rowOf_nil (w : Nat) (row : NL) : rowOf [] row = rowOf (List.replicate w 0) row := by
  rw [← bestOf_eq, ← bestOf_eq]
  unfold bestOf told
  simp only [← way_nil]
theorem way_len (m : Nat) (above row : NL) : (way m above row).length = row.length := by
  unfold way
  split
  · rfl
  · exact lessBefore_len 0 row
  · exact lessAbove_len above row
theorem rowOf_len (above row : NL) : (rowOf above row).length ≤ 2 * row.length + 1 := by
  unfold rowOf
  rw [List.length_cons]
  have := shortOf_len _ (way (bestWay above row) above row) (Nat.le_refl _)
  rw [way_len] at this
  omega
theorem told_len (m : Nat) (above row : NL) : (told m above row).length ≤ 2 * row.length + 1 := by
  unfold told
  rw [List.length_cons]
  have := shortOf_len _ (way m above row) (Nat.le_refl _)
  rw [way_len] at this
  omega
/-- the rows ahead of the i-th -/
def rowsTo (w : Nat) (cells : NL) (i : Nat) : NL := (List.range i).flatMap fun y => rowBytes w cells y
def aboveAt (w : Nat) (cells : NL) (i : Nat) : NL := if i = 0 then List.replicate w 0 else rowAt w cells (i - 1)
theorem rowBytes_eq (w : Nat) (cells : NL) (y : Nat) : rowBytes w cells y = rowOf (aboveAt w cells y) (rowAt w cells y) := by
  show rowOf (if y = 0 then [] else rowAt w cells (y - 1)) (rowAt w cells y) = _
  unfold aboveAt
  split
  · exact rowOf_nil w _
  · rfl
theorem rowsTo_zero (w : Nat) (cells : NL) : rowsTo w cells 0 = [] := rfl
theorem rowsTo_succ (w : Nat) (cells : NL) (i : Nat) : rowsTo w cells (i + 1) = rowsTo w cells i ++ rowOf (aboveAt w cells i) (rowAt w cells i) := by
  unfold rowsTo
  rw [List.range_succ, List.flatMap_append, ← rowBytes_eq]
  simp
theorem rowAt_len {w h : Nat} {cells : NL} {y : Nat} (hl : cells.length = w * h) (hy : y < h) : (rowAt w cells y).length = w := by
  unfold rowAt
  rw [List.length_take, List.length_drop, hl]
  have h1 : (y + 1) * w ≤ h * w := Nat.mul_le_mul_right w hy
  have h2 : (y + 1) * w = y * w + w := Nat.succ_mul y w
  have h3 : w * h = h * w := Nat.mul_comm w h
  omega
theorem aboveAt_len {w h : Nat} {cells : NL} {y : Nat} (hl : cells.length = w * h) (hy : y < h) : (aboveAt w cells y).length = w := by
  unfold aboveAt
  split
  · exact List.length_replicate
  · exact rowAt_len hl (by omega)
theorem rowsTo_len {w h : Nat} {cells : NL} (hl : cells.length = w * h) : ∀ i, i ≤ h → (rowsTo w cells i).length ≤ i * (2 * w + 1)
  | 0, _ => by simp [rowsTo_zero]
  | i + 1, hi => by
    rw [rowsTo_succ, List.length_append]
    have a := rowsTo_len hl i (by omega)
    have b := rowOf_len (aboveAt w cells i) (rowAt w cells i)
    rw [rowAt_len hl (by omega)] at b
    rw [Nat.succ_mul]
    omega
theorem rowAt_mem {w : Nat} {cells : NL} {y x : Nat} (h : x ∈ rowAt w cells y) : x ∈ cells := by
  unfold rowAt at h
  exact List.mem_of_mem_drop (List.mem_of_mem_take h)
def B8 (l : NL) : Prop := ∀ x, x ∈ l → x ≤ 255
theorem aboveAt_b8 {w : Nat} {cells : NL} (h : B8 cells) (y : Nat) : B8 (aboveAt w cells y) := by
  unfold aboveAt
  split
  · intro x hx
    have := List.eq_of_mem_replicate hx
    omega
  · exact fun x hx => h x (rowAt_mem hx)
theorem rowAt_b8 {w : Nat} {cells : NL} (h : B8 cells) (y : Nat) : B8 (rowAt w cells y) := fun x hx => h x (rowAt_mem hx)

/-! ### rows read -/
theorem stretch_mem {b : NL} {s : NL × NL} (h : stretch b = some s) : (∀ x, x ∈ s.1 → x ∈ b) ∧ (∀ x, x ∈ s.2 → x ∈ b) := by
  unfold stretch at h
  split at h
  · rename_i c x t
    split at h
    · generalize c - 125 = m at h
      have e := Option.some.inj h
      rw [← e]
      refine ⟨fun z hz => ?_, fun z hz => ?_⟩
      · have := List.eq_of_mem_replicate hz
        simp [this]
      · simp [hz]
    · split at h
      · simp at h
      · have e := Option.some.inj h
        rw [← e]
        exact ⟨fun z hz => List.mem_cons_of_mem _ (List.mem_of_mem_take hz), fun z hz => List.mem_cons_of_mem _ (List.mem_of_mem_drop hz)⟩
  · simp at h
theorem long_mem : ∀ (n m : Nat) (b : NL) (q : NL × NL), m ≤ n → long m m b = some q → (∀ x, x ∈ q.1 → x ∈ b) ∧ (∀ x, x ∈ q.2 → x ∈ b)
  | n, 0, b, q, _, h => by rw [long_zero] at h; cases h; exact ⟨fun x hx => by simp at hx, fun x hx => hx⟩
  | 0, m + 1, b, q, hm, _ => by omega
  | n + 1, m + 1, b, q, hm, h => by
    rw [long_eq b (by omega)] at h
    cases hs : stretch b with
    | none => rw [hs] at h; cases h
    | some s =>
      have hp := stretch_pos (x := s.1) (r := s.2) hs
      have hmem := stretch_mem hs
      rw [hs] at h
      simp only [Option.bind_some] at h
      split at h
      · cases h
      · cases hl : long (m + 1 - s.1.length) (m + 1 - s.1.length) s.2 with
        | none => rw [hl] at h; cases h
        | some z =>
          rw [hl] at h
          cases h
          have := long_mem n _ _ _ (by omega) hl
          refine ⟨fun x hx => ?_, fun x hx => hmem.2 x (this.2 x hx)⟩
          rcases List.mem_append.mp hx with h1 | h1
          · exact hmem.1 x h1
          · exact hmem.2 x (this.1 x h1)
theorem back_len (m : Nat) (above ds : NL) : (back m above ds).length = ds.length := by
  unfold back
  split
  · rfl
  · exact backBefore_len 0 ds
  · exact backAbove_len above ds
theorem backBefore_b8 : ∀ (p : Nat) (ds : NL), B8 (backBefore p ds)
  | _, [] => fun x hx => by simp [backBefore] at hx
  | p, d :: l => by
    rw [backBefore]
    intro x hx
    rcases List.mem_cons.mp hx with h | h
    · have := Nat.mod_lt (p + d) (show 0 < 256 by decide)
      omega
    · exact backBefore_b8 _ l x h
theorem backAbove_b8 (above ds : NL) : B8 (backAbove above ds) := by
  unfold backAbove
  intro x hx
  obtain ⟨q, _, rfl⟩ := List.mem_map.mp hx
  have := Nat.mod_lt (above.getD q.2 0 + q.1) (show 0 < 256 by decide)
  omega
theorem back_b8 (m : Nat) (above : NL) {ds : NL} (h : B8 ds) : B8 (back m above ds) := by
  unfold back
  split
  · exact h
  · exact backBefore_b8 0 ds
  · exact backAbove_b8 above ds
theorem readRows_nil (w : Nat) : ∀ (h : Nat) (b : NL), readRows w h [] b = readRows w h (List.replicate w 0) b
  | 0, b => rfl
  | h + 1, b => by
    cases b with
    | nil => rfl
    | cons m r =>
      rw [readRows, readRows]
      split
      · rfl
      · split
        · rfl
        · simp only [← back_nil]
theorem readRows_step {w k : Nat} {above : NL} {m : Nat} {r : NL} {q : NL × NL} (hm : ¬ 2 < m) (hl : long w w r = some q) : readRows w (k + 1) above (m :: r) = (readRows w k (back m above q.1) q.2).map fun l => back m above q.1 ++ l := by
  rw [readRows, if_neg hm, hl]
theorem readRows_way {w k : Nat} {above : NL} {m : Nat} {r : NL} (hm : 2 < m) : readRows w (k + 1) above (m :: r) = none := by
  rw [readRows, if_pos hm]
theorem readRows_no {w k : Nat} {above : NL} {m : Nat} {r : NL} (hl : long w w r = none) : readRows w (k + 1) above (m :: r) = none := by
  rw [readRows, hl]
  split <;> rfl
theorem readRows_end {w k : Nat} {above : NL} : readRows w (k + 1) above [] = none := rfl
theorem readRows_ok {w : Nat} : ∀ (k : Nat) (above b l : NL), readRows w k above b = some l → l.length = k * w ∧ (B8 b → B8 l)
  | 0, above, b, l, h => by
    rw [readRows] at h
    split at h
    · cases h
      exact ⟨by simp, fun _ x hx => by simp at hx⟩
    · cases h
  | k + 1, above, [], l, h => by cases h
  | k + 1, above, m :: r, l, h => by
    rw [readRows] at h
    split at h
    · cases h
    · split at h
      · cases h
      · rename_i q hq
        simp only [] at h
        cases hr : readRows w k (back m above q.1) q.2 with
        | none => rw [hr] at h; cases h
        | some l' =>
          rw [hr] at h
          cases h
          have ih := readRows_ok k _ _ _ hr
          have hlen := long_len w w r q (Nat.le_refl _) hq
          have hmem := long_mem w w r q (Nat.le_refl _) hq
          refine ⟨?_, fun hb => ?_⟩
          · rw [List.length_append, back_len, hlen, ih.1, Nat.succ_mul]; omega
          · have hb' : B8 r := fun x hx => hb x (List.mem_cons_of_mem _ hx)
            intro x hx
            rcases List.mem_append.mp hx with h1 | h1
            · exact back_b8 m above (fun y hy => hb' y (hmem.1 y hy)) x h1
            · exact ih.2 (fun y hy => hb' y (hmem.2 y hy)) x h1
/-- read_rows' loop: i rows are read -/
def RowsGo (w h : Nat) (b0 : NL) (i : Nat) (nums above rest : NL) : Prop := readRows w h [] b0 = (readRows w (h - i) above rest).map fun l => nums ++ l
theorem RowsGo.start (w h : Nat) (b : NL) : RowsGo w h b 0 [] (List.replicate w 0) b := by
  unfold RowsGo
  rw [← readRows_nil, Nat.sub_zero]
  simp
theorem RowsGo.step {w h i : Nat} {b0 nums above r : NL} {m : Nat} {q : NL × NL} (R : RowsGo w h b0 i nums above (m :: r)) (hi : i < h) (hm : ¬ 2 < m) (hl : long w w r = some q) : RowsGo w h b0 (i + 1) (nums ++ back m above q.1) (back m above q.1) q.2 := by
  unfold RowsGo at *
  rw [R, show h - i = (h - (i + 1)) + 1 by omega, readRows_step hm hl]
  cases readRows w (h - (i + 1)) (back m above q.1) q.2 with
  | none => rfl
  | some l => simp
theorem RowsGo.way {w h i : Nat} {b0 nums above r : NL} {m : Nat} (R : RowsGo w h b0 i nums above (m :: r)) (hi : i < h) (hm : 2 < m) : readRows w h [] b0 = none := by
  unfold RowsGo at R
  rw [R, show h - i = (h - (i + 1)) + 1 by omega, readRows_way hm]
  rfl
theorem RowsGo.no {w h i : Nat} {b0 nums above r : NL} {m : Nat} (R : RowsGo w h b0 i nums above (m :: r)) (hi : i < h) (hl : long w w r = none) : readRows w h [] b0 = none := by
  unfold RowsGo at R
  rw [R, show h - i = (h - (i + 1)) + 1 by omega, readRows_no hl]
  rfl
theorem RowsGo.short {w h i : Nat} {b0 nums above : NL} (R : RowsGo w h b0 i nums above []) (hi : i < h) : readRows w h [] b0 = none := by
  unfold RowsGo at R
  rw [R, show h - i = (h - (i + 1)) + 1 by omega, readRows_end]
  rfl
theorem RowsGo.more {w h i : Nat} {b0 nums above r : NL} {m : Nat} (R : RowsGo w h b0 i nums above (m :: r)) (hi : i = h) : readRows w h [] b0 = none := by
  unfold RowsGo at R
  rw [R, hi, Nat.sub_self]
  rfl
theorem RowsGo.done {w h i : Nat} {b0 nums above : NL} (R : RowsGo w h b0 i nums above []) (hi : i = h) : readRows w h [] b0 = some nums := by
  unfold RowsGo at R
  rw [R, hi, Nat.sub_self]
  show some (nums ++ []) = _
  rw [List.append_nil]

/-! ### sums and parts -/
theorem sumOf_snoc (b : NL) (x : Nat) : sumOf (b ++ [x]) = (sumOf b * 31 + x + 1) % 65521 := by
  unfold sumOf
  rw [List.foldl_append]
  rfl
theorem sumOf_lt (b : NL) : sumOf b < 65521 := by
  by_cases h : b = []
  · subst h; decide
  · rw [← List.dropLast_concat_getLast h, sumOf_snoc]
    exact Nat.mod_lt _ (by decide)
theorem two_eq {n : Nat} (h : n < 65536) : two n = [n / 256, n % 256] := by
  unfold two
  rw [Nat.mod_eq_of_lt (by omega : n / 256 < 256)]
theorem two_sum (b : NL) : two (sumOf b) = [sumOf b / 256, sumOf b % 256] := two_eq (by have := sumOf_lt b; omega)
theorem part_bytes {k : Nat} {body : NL} (h : body.length < 65536) : (⟨k, body⟩ : Part).bytes = (k :: [body.length / 256, body.length % 256] ++ body) ++ [sumOf (k :: [body.length / 256, body.length % 256] ++ body) / 256, sumOf (k :: [body.length / 256, body.length % 256] ++ body) % 256] := by
  unfold Part.bytes
  simp only [two_eq h, two_sum]
  rfl
theorem part_len {k : Nat} {body : NL} : (⟨k, body⟩ : Part).bytes.length = body.length + 5 := by
  unfold Part.bytes two
  simp
/-- whole_part as a function of places -/
def wholePart (b : NL) (at_ : Nat) : Option (Nat × NL × Nat) :=
  if b.length < at_ + 3 then none else
    let n := b.getD (at_ + 1) 0 * 256 + b.getD (at_ + 2) 0
    if b.length < at_ + 3 + n + 2 then none else
      if (b.drop (at_ + 3 + n)).take 2 = [sumOf ((b.drop at_).take (3 + n)) / 256, sumOf ((b.drop at_).take (3 + n)) % 256] then some (b.getD at_ 0, (b.drop (at_ + 3)).take n, at_ + 3 + n + 2) else none
theorem firstPart_at (b : NL) (at_ : Nat) : firstPart (b.drop at_) = (wholePart b at_).map fun q => (⟨q.1, q.2.1⟩, b.drop q.2.2) := by
  unfold wholePart
  by_cases h : b.length < at_ + 3
  · rw [if_pos h]
    match hd : b.drop at_, (show (b.drop at_).length < 3 by rw [List.length_drop]; omega) with
    | [], _ => rfl
    | [_], _ => rfl
    | [_, _], _ => rfl
    | _ :: _ :: _ :: _, h => simp only [List.length_cons] at h; omega
  · rw [if_neg h]
    have e0 : b.drop at_ = b.getD at_ 0 :: b.getD (at_ + 1) 0 :: b.getD (at_ + 2) 0 :: b.drop (at_ + 3) := by
      rw [List.drop_eq_getElem_cons (by omega : at_ < b.length), List.drop_eq_getElem_cons (by omega : at_ + 1 < b.length), List.drop_eq_getElem_cons (by omega : at_ + 1 + 1 < b.length)]
      simp [List.getD_eq_getElem?_getD, List.getElem?_eq_getElem (by omega : at_ < b.length), List.getElem?_eq_getElem (by omega : at_ + 1 < b.length), List.getElem?_eq_getElem (by omega : at_ + 1 + 1 < b.length), List.getElem?_eq_getElem (by omega : at_ + 2 < b.length)]
    generalize b.getD at_ 0 = k at *
    generalize b.getD (at_ + 1) 0 = x at *
    generalize b.getD (at_ + 2) 0 = y at *
    simp only []
    rw [e0]
    unfold firstPart ofTwo
    simp only [List.length_drop, List.drop_drop]
    by_cases h2 : b.length < at_ + 3 + (x * 256 + y) + 2
    · rw [if_pos (by omega), if_pos h2]
      rfl
    · rw [if_neg (by omega), if_neg h2]
      have e1 : List.take (3 + (x * 256 + y)) (k :: x :: y :: b.drop (at_ + 3)) = k :: x :: y :: (b.drop (at_ + 3)).take (x * 256 + y) := by
        rw [Nat.add_comm 3]
        rfl
      rw [e1, two_sum]
      split
      · rfl
      · rfl
theorem wholePart_facts {b : NL} {a : Nat} {q : Nat × NL × Nat} (h : wholePart b a = some q) : a + 5 ≤ q.2.2 ∧ q.2.2 ≤ b.length ∧ q.2.2 = a + 5 + q.2.1.length ∧ (∀ x, x ∈ q.2.1 → x ∈ b) ∧ q.1 = b.getD a 0 := by
  unfold wholePart at h
  split at h
  · cases h
  · simp only [] at h
    split at h
    · cases h
    · split at h
      · have e := Option.some.inj h
        rw [← e]
        refine ⟨by simp only []; omega, by simp only []; omega, ?_, fun x hx => List.mem_of_mem_drop (List.mem_of_mem_take hx), rfl⟩
        simp only [List.length_take, List.length_drop]
        omega
      · cases h
theorem readLayer_ok {w h : Nat} {b : NL} {l : Layer} (hr : readLayer w h b = some l) : l.name.length ≤ 12 ∧ l.cells.length = w * h ∧ (B8 b → B8 l.cells) := by
  unfold readLayer at hr
  split at hr
  · cases hr
  · rename_i n r
    split at hr
    · cases hr
    · rename_i c
      cases e : readRows w h [] (r.drop n) with
      | none => rw [e] at hr; cases hr
      | some z =>
        rw [e] at hr
        cases hr
        have ok := readRows_ok h _ _ _ e
        refine ⟨?_, ?_, fun hb => ok.2 fun x hx => hb x (List.mem_cons_of_mem _ (List.mem_of_mem_drop hx))⟩
        · simp only [List.length_take]; omega
        · simp only []; rw [ok.1, Nat.mul_comm]
end Pf
end
section
/-! The mathematics of a file read, part by part. -/
namespace Pf
open Ie11
def pageOk (w h : Nat) : Bool := decide (1 ≤ w ∧ w ≤ 8 ∧ 1 ≤ h ∧ h ≤ 8)
def pageBody : NL → Option (Nat × Nat)
  | [w, h] => if pageOk w h then some (w, h) else none
  | _ => none
theorem pageBody_some {b : NL} {w h : Nat} (e : pageBody b = some (w, h)) : b = [w, h] ∧ 1 ≤ w ∧ w ≤ 8 ∧ 1 ≤ h ∧ h ≤ 8 := by
  unfold pageBody at e
  split at e
  · split at e
    · rename_i hp
      cases e
      exact ⟨rfl, of_decide_eq_true hp⟩
    · cases e
  · cases e
/-- one part taken: its fault, or 0; the document then -/
def takeP (x : Doc) (k : Nat) (b : NL) (left : Nat) : Nat × Doc :=
  if k = 1 then (match pageBody b with
    | some q => (0, ⟨q.1, q.2, [], []⟩)
    | none => (4, x))
  else if k = 0 then (if b = [] ∧ left = 0 then (0, x) else (6, x))
  else if k = 2 then (match readLayer x.w x.h b with
    | none => (5, x)
    | some l => if 6 ≤ x.layers.length then (7, x) else (0, { x with layers := x.layers ++ [l] }))
  else if 6 ≤ x.others.length then (7, x) else (0, { x with others := x.others ++ [⟨k, b⟩] })
def doc0 : Doc := ⟨1, 1, [], []⟩
theorem rp_empty {whole k : Nat} {d : Option Doc} : readParts whole (k + 1) d [] = .error (6, whole) := by
  rw [readParts]; rfl
theorem drop_ne {b : NL} {a : Nat} (h : a < b.length) : (b.drop a).isEmpty = false := by
  rw [List.drop_eq_getElem_cons h]; rfl
theorem rp_none {b : NL} {k a : Nat} {d : Option Doc} (h : a < b.length) (hw : wholePart b a = none) : readParts b.length (k + 1) d (b.drop a) = .error (2, a) := by
  rw [readParts, if_neg (by rw [drop_ne h]; simp), firstPart_at, hw]
  simp only [Option.map_none, List.length_drop]
  congr 2
  omega
theorem rp_place {b : NL} {k a : Nat} {d : Option Doc} {z : Nat × NL × Nat} (h : a < b.length) (hw : wholePart b a = some z) (hp : (z.1 = 1) ≠ (d = none)) : readParts b.length (k + 1) d (b.drop a) = .error (3, a) := by
  rw [readParts, if_neg (by rw [drop_ne h]; simp), firstPart_at, hw]
  have e : b.length - (b.drop a).length = a := by rw [List.length_drop]; omega
  simp only [Option.map_some]
  cases d with
  | none =>
    have : ¬ z.1 = 1 := fun q => hp (by simp [q])
    simp only []
    rw [if_pos this, e]
  | some x =>
    have : z.1 = 1 := by
      by_cases q : z.1 = 1
      · exact q
      · exact absurd (by simp [q]) hp
    simp only []
    rw [if_pos this, e]
theorem rp_take {b : NL} {k a : Nat} {d : Option Doc} {z : Nat × NL × Nat} (h : a < b.length) (hw : wholePart b a = some z) (hp : (z.1 = 1) = (d = none)) :
    readParts b.length (k + 1) d (b.drop a) = (if (takeP (d.getD doc0) z.1 z.2.1 (b.length - z.2.2)).1 ≠ 0 then .error ((takeP (d.getD doc0) z.1 z.2.1 (b.length - z.2.2)).1, a) else if z.1 = 0 then .ok (d.getD doc0) else readParts b.length k (some (takeP (d.getD doc0) z.1 z.2.1 (b.length - z.2.2)).2) (b.drop z.2.2)) := by
  rw [readParts, if_neg (by rw [drop_ne h]; simp), firstPart_at, hw]
  have e : b.length - (b.drop a).length = a := by rw [List.length_drop]; omega
  obtain ⟨zk, zb, ze⟩ := z
  simp only [Option.map_some]
  cases d with
  | none =>
    have k1 : zk = 1 := by
      have : (zk = 1) = True := hp.trans (by simp)
      exact of_eq_true this
    subst k1
    simp only [e, takeP, if_true, Option.getD_none]
    rw [if_neg (by simp)]
    cases hb : pageBody zb with
    | some q =>
      obtain ⟨w, hh⟩ := q
      obtain ⟨rfl, g⟩ := pageBody_some hb
      simp only []
      rw [if_neg (by omega), if_neg (by simp), if_neg (by omega)]
    | none =>
      simp only []
      rw [if_pos (by omega)]
      unfold pageBody at hb
      split at hb
      · rename_i w hh
        simp only []
        split at hb
        · cases hb
        · rename_i g
          rw [if_pos (by
            by_cases c : 1 ≤ w ∧ w ≤ 8 ∧ 1 ≤ hh ∧ hh ≤ 8
            · exact absurd (decide_eq_true c) g
            · omega)]
      · rename_i g
        split
        · rename_i w hh
          exact absurd rfl (g w hh)
        · rfl
  | some x =>
    have k1 : ¬ zk = 1 := by
      have : (zk = 1) = False := hp.trans (by simp)
      exact of_eq_false this
    simp only [e, Option.getD_some]
    rw [if_neg k1]
    unfold takeP
    rw [if_neg k1]
    by_cases k0 : zk = 0
    · rw [if_pos k0, if_pos k0]
      by_cases c : zb = [] ∧ b.length - ze = 0
      · rw [if_pos c, if_pos (by rw [c.1]; exact ⟨rfl, by rw [List.drop_of_length_le (by omega)]; rfl⟩), if_neg (by simp), if_pos k0]
      · have c' : ¬ (zb.isEmpty = true ∧ (b.drop ze).isEmpty = true) := by
          rintro ⟨c1, c2⟩
          refine c ⟨List.isEmpty_iff.mp c1, ?_⟩
          have := congrArg List.length (List.isEmpty_iff.mp c2)
          rw [List.length_drop] at this
          exact this
        rw [if_neg c, if_neg c']
        simp only []
        rw [if_pos (by omega)]
    · rw [if_neg k0, if_neg k0]
      by_cases k2 : zk = 2
      · rw [if_pos k2, if_pos k2]
        cases hl : readLayer x.w x.h zb with
        | none => simp only []; rw [if_pos (by omega)]
        | some l =>
          simp only []
          by_cases c : 6 ≤ x.layers.length
          · rw [if_pos c, if_pos c]
            simp only []
            rw [if_pos (by omega)]
          · rw [if_neg c, if_neg c]
            simp only []
            rw [if_neg (by simp), if_neg k0]
      · rw [if_neg k2, if_neg k2]
        by_cases c : 6 ≤ x.others.length
        · rw [if_pos c, if_pos c]
          simp only []
          rw [if_pos (by omega)]
        · rw [if_neg c, if_neg c]
          simp only []
          rw [if_neg (by simp), if_neg k0]
theorem takeP_end {x : Doc} {b : NL} {left : Nat} : (takeP x 0 b left).2 = x := by
  unfold takeP
  rw [if_neg (by omega), if_pos rfl]
  split <;> rfl
theorem takeP_doc {x : Doc} {k : Nat} {b : NL} {left : Nat} (h : (takeP x k b left).1 ≠ 0) : (takeP x k b left).2 = x := by
  unfold takeP at *
  by_cases k1 : k = 1
  · rw [if_pos k1] at *
    cases e : pageBody b with
    | none => rfl
    | some q => rw [e] at h; simp at h
  · rw [if_neg k1] at *
    by_cases k0 : k = 0
    · rw [if_pos k0] at *
      split <;> rfl
    · rw [if_neg k0] at *
      by_cases k2 : k = 2
      · rw [if_pos k2] at *
        cases e : readLayer x.w x.h b with
        | none => rfl
        | some l =>
          rw [e] at h
          simp only [] at *
          by_cases c : 6 ≤ x.layers.length
          · rw [if_pos c]
          · rw [if_neg c] at h; simp at h
      · rw [if_neg k2] at *
        by_cases c : 6 ≤ x.others.length
        · rw [if_pos c]
        · rw [if_neg c] at h; simp at h
/-- where a reading stands: the parts ahead of a are read, d is what they told -/
def Rdg (b : NL) (a : Nat) (d : Option Doc) : Prop := 2 ≤ a ∧ a ≤ b.length ∧ (d = none ↔ a = 2) ∧ ∃ k, b.length - a < k ∧ Ie11.read b = readParts b.length k d (b.drop a)
theorem Rdg.start {b : NL} (h : b.take 2 = [80, 73]) : Rdg b 2 none := by
  match b, h with
  | x :: y :: r, h =>
    have e1 : x = 80 := by simpa using congrArg List.head? h
    have e2 : y = 73 := by
      have : (x :: [y]) = [80, 73] := h
      injection this with _ h2
      injection h2
    subst e1 e2
    exact ⟨Nat.le_refl _, by simp, by simp, (80 :: 73 :: r).length + 1, by omega, rfl⟩
theorem read_begin {b : NL} (h : b.take 2 ≠ [80, 73]) : Ie11.read b = .error (1, 0) := by
  unfold Ie11.read
  split
  · exact absurd rfl h
  · rfl
theorem Rdg.out {b : NL} {d : Option Doc} (R : Rdg b b.length d) : Ie11.read b = .error (6, b.length) := by
  obtain ⟨_, _, _, k, hk, e⟩ := R
  obtain ⟨k, rfl⟩ : ∃ j, k = j + 1 := ⟨k - 1, by omega⟩
  rw [e, List.drop_of_length_le (Nat.le_refl _), rp_empty]
theorem Rdg.none {b : NL} {a : Nat} {d : Option Doc} (R : Rdg b a d) (h : a < b.length) (hw : wholePart b a = .none) : Ie11.read b = .error (2, a) := by
  obtain ⟨_, _, _, k, hk, e⟩ := R
  obtain ⟨k, rfl⟩ : ∃ j, k = j + 1 := ⟨k - 1, by omega⟩
  rw [e, rp_none h hw]
theorem Rdg.place {b : NL} {a : Nat} {d : Option Doc} {z : Nat × NL × Nat} (R : Rdg b a d) (h : a < b.length) (hw : wholePart b a = some z) (hp : ¬ (z.1 = 1 ↔ a = 2)) : Ie11.read b = .error (3, a) := by
  obtain ⟨_, _, hd, k, hk, e⟩ := R
  obtain ⟨k, rfl⟩ : ∃ j, k = j + 1 := ⟨k - 1, by omega⟩
  rw [e, rp_place h hw fun q => hp ((iff_of_eq q).trans hd)]
theorem Rdg.fault {b : NL} {a : Nat} {d : Option Doc} {z : Nat × NL × Nat} (R : Rdg b a d) (h : a < b.length) (hw : wholePart b a = some z) (hp : z.1 = 1 ↔ a = 2) (hf : (takeP (d.getD doc0) z.1 z.2.1 (b.length - z.2.2)).1 ≠ 0) :
    Ie11.read b = .error ((takeP (d.getD doc0) z.1 z.2.1 (b.length - z.2.2)).1, a) := by
  obtain ⟨_, _, hd, k, hk, e⟩ := R
  obtain ⟨k, rfl⟩ : ∃ j, k = j + 1 := ⟨k - 1, by omega⟩
  rw [e, rp_take h hw (propext (hp.trans hd.symm)), if_pos hf]
theorem Rdg.done {b : NL} {a : Nat} {d : Option Doc} {z : Nat × NL × Nat} (R : Rdg b a d) (h : a < b.length) (hw : wholePart b a = some z) (hp : z.1 = 1 ↔ a = 2) (hf : (takeP (d.getD doc0) z.1 z.2.1 (b.length - z.2.2)).1 = 0) (h0 : z.1 = 0) :
    Ie11.read b = .ok (d.getD doc0) := by
  obtain ⟨_, _, hd, k, hk, e⟩ := R
  obtain ⟨k, rfl⟩ : ∃ j, k = j + 1 := ⟨k - 1, by omega⟩
  rw [e, rp_take h hw (propext (hp.trans hd.symm)), if_neg (fun q => q hf), if_pos h0]
theorem Rdg.next {b : NL} {a : Nat} {d : Option Doc} {z : Nat × NL × Nat} (R : Rdg b a d) (h : a < b.length) (hw : wholePart b a = some z) (hp : z.1 = 1 ↔ a = 2) (hf : (takeP (d.getD doc0) z.1 z.2.1 (b.length - z.2.2)).1 = 0) (h0 : z.1 ≠ 0) :
    Rdg b z.2.2 (some (takeP (d.getD doc0) z.1 z.2.1 (b.length - z.2.2)).2) := by
  obtain ⟨h2, _, hd, k, hk, e⟩ := R
  obtain ⟨k, rfl⟩ : ∃ j, k = j + 1 := ⟨k - 1, by omega⟩
  have w := wholePart_facts hw
  refine ⟨by omega, w.2.1, by constructor; intro q; cases q; intro q; omega, k, by omega, ?_⟩
  rw [e, rp_take h hw (propext (hp.trans hd.symm)), if_neg (fun q => q hf), if_neg h0]
end Pf
end
section
/-! The calls as they stand in the list that is handed in. -/
namespace Pf
open Ie11
def wn (p : Nat) : Nat := ([2, 0, 1, 1, 1, 0, 0, 0, 0, 1, 0, 0, 1] : NL).getD p 0
def hrw (p : Nat) : Bool := ([false, true, true, true, false, false, true, true, false, false, false, true, true] : List Bool).getD p false
/-- a call by its number, its whole numbers, its row -/
def callNat : Nat → NL → NL → Option Call
  | 0, [w, h], _ => some (.page w h)
  | 1, [], l => some (.layer l)
  | 2, [i], l => some (.cells i l)
  | 3, [k], l => some (.other k l)
  | 4, [i], _ => some (.drop i)
  | 5, [], _ => some .write
  | 6, [], l => some (.read l)
  | 7, [], l => some (.mend l)
  | 8, [], _ => some .shows
  | 9, [i], _ => some (.look i)
  | 10, [], _ => some .others
  | 11, [], l => some (.short l)
  | 12, [n], l => some (.long n l)
  | _, _, _ => none
abbrev stp (s : Ie11Neutral.S) (c : List (List Int)) : Ie11Neutral.S × List Int := Ie11Neutral.step s (c.headD [])
theorem ints_nat (l : NL) : (Ie11.ints l).map Int.toNat = l := by
  unfold Ie11.ints
  rw [List.map_map]
  have : (Int.toNat ∘ fun (n : Nat) => (n : Int)) = id := by
    funext n
    simp
  rw [this, List.map_id]
theorem ints_take (l : NL) (n : Nat) : (Ie11.ints l).take n = Ie11.ints (l.take n) := by unfold Ie11.ints; rw [List.map_take]
theorem ints_drop (l : NL) (n : Nat) : (Ie11.ints l).drop n = Ie11.ints (l.drop n) := by unfold Ie11.ints; rw [List.map_drop]
theorem ints_len (l : NL) : (Ie11.ints l).length = l.length := by unfold Ie11.ints; exact List.length_map _
theorem ints_cons (x : Nat) (l : NL) : Ie11.ints (x :: l) = (x : Int) :: Ie11.ints l := rfl
theorem step_of {l : NL} {c : Call} (ha : Ie11Neutral.asked1 (Ie11.ints l) = true) (hc : Ie11Neutral.callIn l = some c) (s : Doc) : Ie11Neutral.step s (Ie11.ints l) = Ie11.step s c := by
  unfold Ie11Neutral.step
  unfold Ie11Neutral.asked1 Ie11Neutral.callOf at ha
  unfold Ie11Neutral.callOf
  split at ha
  · simp at ha
  · rename_i h
    rw [if_neg h, ints_nat, hc]
/-- one row -/
theorem row_of {l : NL} {x t : List Int} (h : PyFlat.row (Ie11.ints l) = some (x, t)) : ∃ m r', l = m :: r' ∧ m ≤ r'.length ∧ x = Ie11.ints (r'.take m) ∧ t = Ie11.ints (r'.drop m) := by
  cases l with
  | nil => cases h
  | cons m r' =>
    rw [ints_cons, PyFlat.row] at h
    split at h
    · rename_i c
      have e := Option.some.inj h
      rw [Int.toNat_natCast, ints_len] at c
      rw [Int.toNat_natCast, ints_take, ints_drop] at e
      exact ⟨m, r', rfl, c.2, (Prod.mk.inj e).1.symm, (Prod.mk.inj e).2.symm⟩
    · cases h
/-- the row and the rest, behind n whole numbers -/
def rowN (n : Nat) (has : Bool) (r : NL) : NL := if has then ((r.drop (n + 1)).take ((r.drop n).headD 0)) else []
def restN (n : Nat) (has : Bool) (r : NL) : NL := if has then (r.drop (n + 1)).drop ((r.drop n).headD 0) else r.drop n
/-- a call without rows, with n whole numbers -/
theorem call0 {p n : Nat} {r : NL} {q : List (List Int) × List Int} (hs : PyIe11.shape (p : Int) = some (n, 0)) (h : PyFlat.call PyIe11.shape (Ie11.ints (p :: r)) = some q) : n ≤ r.length ∧ q = ([Ie11.ints (p :: r.take n)], Ie11.ints (r.drop n)) := by
  rw [ints_cons, PyFlat.call, hs] at h
  simp only [PyFlat.rows] at h
  split at h
  · cases h
  · rename_i c
    rw [ints_len] at c
    refine ⟨by omega, ?_⟩
    have e := Option.some.inj h
    rw [← e, ints_take, ints_drop]
    rfl
theorem call1 {p n : Nat} {r : NL} {q : List (List Int) × List Int} (hs : PyIe11.shape (p : Int) = some (n, 1)) (h : PyFlat.call PyIe11.shape (Ie11.ints (p :: r)) = some q) : n ≤ r.length ∧ ∃ m r', r.drop n = m :: r' ∧ m ≤ r'.length ∧ q = ([Ie11.ints (p :: r.take n), Ie11.ints (r'.take m)], Ie11.ints (r'.drop m)) := by
  rw [ints_cons, PyFlat.call, hs] at h
  simp only [PyFlat.rows] at h
  split at h
  · cases h
  · rename_i c
    rw [ints_len] at c
    refine ⟨by omega, ?_⟩
    rw [ints_drop] at h
    cases hr : PyFlat.row (Ie11.ints (r.drop n)) with
    | none => rw [hr] at h; cases h
    | some y =>
      obtain ⟨x, t⟩ := y
      rw [hr] at h
      obtain ⟨m, r', e1, e2, e3, e4⟩ := row_of hr
      refine ⟨m, r', e1, e2, ?_⟩
      have e := Option.some.inj h
      rw [← e, e3, e4, ints_take]
      rfl
theorem shape_tab : ∀ p : Nat, p ≤ 12 → PyIe11.shape (p : Int) = some (wn p, if hrw p then 1 else 0)
  | 0, _ | 1, _ | 2, _ | 3, _ | 4, _ | 5, _ | 6, _ | 7, _ | 8, _ | 9, _ | 10, _ | 11, _ | 12, _ => by decide
  | p + 13, h => by omega
theorem shape_big (p : Nat) (h : ¬ p ≤ 12) : PyIe11.shape (p : Int) = none := by
  unfold PyIe11.shape
  repeat rw [if_neg (by omega)]
theorem whole_len2 {l : NL} (h : 2 ≤ l.length) : ∃ a b, l.take 2 = [a, b] := by
  match l, h with
  | a :: b :: _, _ => exact ⟨a, b, rfl⟩
theorem whole_len1 {l : NL} (h : 1 ≤ l.length) : ∃ a, l.take 1 = [a] := by
  match l, h with
  | a :: _, _ => exact ⟨a, rfl⟩
/-- what one call is: by the list, and by the specification -/
theorem call_is : ∀ (p : Nat) (r row : NL), p ≤ 12 → wn p ≤ r.length → (hrw p = false → row = []) →
    ∃ c, callNat p (r.take (wn p)) row = some c ∧ (PyIe11.whole (if hrw p then [Ie11.ints (p :: r.take (wn p)), Ie11.ints row] else [Ie11.ints (p :: r.take (wn p))])).headD [] = Ie11.ints (p :: (r.take (wn p) ++ row)) ∧ Ie11Neutral.callIn (p :: (r.take (wn p) ++ row)) = some c
  | 0, r, row, _, h, e => by
    obtain ⟨a, b, e2⟩ := whole_len2 h
    have : row = [] := e rfl
    subst this
    show ∃ c, callNat 0 (r.take 2) [] = some c ∧ _ = Ie11.ints (0 :: (r.take 2 ++ [])) ∧ Ie11Neutral.callIn (0 :: (r.take 2 ++ [])) = some c
    show ∃ c, callNat 0 (r.take 2) [] = some c ∧ (PyIe11.whole [Ie11.ints (0 :: r.take 2)]).headD [] = Ie11.ints (0 :: (r.take 2 ++ [])) ∧ Ie11Neutral.callIn (0 :: (r.take 2 ++ [])) = some c
    rw [e2]
    exact ⟨_, rfl, rfl, rfl⟩
  | 1, r, row, _, h, e => ⟨_, rfl, rfl, rfl⟩
  | 2, r, row, _, h, e => by
    obtain ⟨a, e2⟩ := whole_len1 h
    show ∃ c, callNat 2 (r.take 1) row = some c ∧ (PyIe11.whole [Ie11.ints (2 :: r.take 1), Ie11.ints row]).headD [] = Ie11.ints (2 :: (r.take 1 ++ row)) ∧ Ie11Neutral.callIn (2 :: (r.take 1 ++ row)) = some c
    rw [e2]
    exact ⟨_, rfl, rfl, rfl⟩
  | 3, r, row, _, h, e => by
    obtain ⟨a, e2⟩ := whole_len1 h
    show ∃ c, callNat 3 (r.take 1) row = some c ∧ (PyIe11.whole [Ie11.ints (3 :: r.take 1), Ie11.ints row]).headD [] = Ie11.ints (3 :: (r.take 1 ++ row)) ∧ Ie11Neutral.callIn (3 :: (r.take 1 ++ row)) = some c
    rw [e2]
    exact ⟨_, rfl, rfl, rfl⟩
  | 4, r, row, _, h, e => by
    obtain ⟨a, e2⟩ := whole_len1 h
    have : row = [] := e rfl
    subst this
    show ∃ c, callNat 4 (r.take 1) [] = some c ∧ (PyIe11.whole [Ie11.ints (4 :: r.take 1)]).headD [] = Ie11.ints (4 :: (r.take 1 ++ [])) ∧ Ie11Neutral.callIn (4 :: (r.take 1 ++ [])) = some c
    rw [e2]
    exact ⟨_, rfl, rfl, rfl⟩
  | 5, r, row, _, h, e => by
    have : row = [] := e rfl
    subst this
    exact ⟨_, rfl, rfl, rfl⟩
  | 6, r, row, _, h, e => ⟨_, rfl, rfl, rfl⟩
  | 7, r, row, _, h, e => ⟨_, rfl, rfl, rfl⟩
  | 8, r, row, _, h, e => by
    have : row = [] := e rfl
    subst this
    exact ⟨_, rfl, rfl, rfl⟩
  | 9, r, row, _, h, e => by
    obtain ⟨a, e2⟩ := whole_len1 h
    have : row = [] := e rfl
    subst this
    show ∃ c, callNat 9 (r.take 1) [] = some c ∧ (PyIe11.whole [Ie11.ints (9 :: r.take 1)]).headD [] = Ie11.ints (9 :: (r.take 1 ++ [])) ∧ Ie11Neutral.callIn (9 :: (r.take 1 ++ [])) = some c
    rw [e2]
    exact ⟨_, rfl, rfl, rfl⟩
  | 10, r, row, _, h, e => by
    have : row = [] := e rfl
    subst this
    exact ⟨_, rfl, rfl, rfl⟩
  | 11, r, row, _, h, e => ⟨_, rfl, rfl, rfl⟩
  | 12, r, row, _, h, e => by
    obtain ⟨a, e2⟩ := whole_len1 h
    show ∃ c, callNat 12 (r.take 1) row = some c ∧ (PyIe11.whole [Ie11.ints (12 :: r.take 1), Ie11.ints row]).headD [] = Ie11.ints (12 :: (r.take 1 ++ row)) ∧ Ie11Neutral.callIn (12 :: (r.take 1 ++ row)) = some c
    rw [e2]
    exact ⟨_, rfl, rfl, rfl⟩
  | p + 13, _, _, h, _, _ => by omega
/-- a row's bound -/
theorem row_bound {p m : Nat} {hd : List Int} {row : List Int} (hp : p ≤ 12) (hr : hrw p = true) (h : PyInside.call PyIe11.bound [(p : Int) :: hd, row] = true) (hm : row.length = m) : m ≤ 2000 := by
  have key : ∀ (lo hi : Int) (least most : Nat), most ≤ 2000 → PyInside.lists [(lo, hi, least, most)] [row] = true → m ≤ 2000 := fun lo hi least most h2 h => by
    unfold PyInside.lists at h
    simp only [Bool.and_eq_true, decide_eq_true_eq] at h
    omega
  unfold PyInside.call at h
  simp only [Bool.and_eq_true] at h
  have h2 := h.2
  match p, hp, hr with
  | 1, _, _ => exact key 0 4294967295 0 20 (by omega) h2
  | 2, _, _ => exact key 0 4294967295 0 80 (by omega) h2
  | 3, _, _ => exact key 0 4294967295 0 60 (by omega) h2
  | 6, _, _ => exact key 0 4294967295 0 2000 (by omega) h2
  | 7, _, _ => exact key 0 4294967295 0 2000 (by omega) h2
  | 11, _, _ => exact key 0 4294967295 0 450 (by omega) h2
  | 12, _, _ => exact key 0 4294967295 0 1000 (by omega) h2
/-- where the loop stands: what is left of the list, and what it is to bring -/
structure Left (rest : NL) (s : Doc) (due : List Int) : Prop where
  ex : ∃ (f : Nat) (raw : List (List (List Int))), PyFlat.calls PyIe11.shape f (Ie11.ints rest) = some raw ∧ PyInside.calls PyIe11.bound raw = true ∧ ((raw.map PyIe11.whole).map fun c => c.headD []).all Ie11Neutral.asked1 = true ∧ due = PyFlat.told (PyFlat.played stp s (raw.map PyIe11.whole))
theorem Left.nil {s : Doc} {due : List Int} (L : Left [] s due) : due = [] := by
  obtain ⟨f, raw, h1, _, _, h4⟩ := L.ex
  have : raw = [] := by
    cases f <;> exact (Option.some.inj h1).symm
  rw [h4, this]
  rfl
theorem Left.turn {p : Nat} {r : NL} {s : Doc} {due : List Int} (L : Left (p :: r) s due) :
    p ≤ 12 ∧ wn p ≤ r.length ∧ (hrw p = true → ∃ m r', r.drop (wn p) = m :: r' ∧ m ≤ r'.length ∧ m ≤ 2000) ∧
      ∃ c due', callNat p (r.take (wn p)) (rowN (wn p) (hrw p) r) = some c ∧ Left (restN (wn p) (hrw p) r) (Ie11.step s c).1 due' ∧ due = ((Ie11.step s c).2.length : Int) :: ((Ie11.step s c).2 ++ due') := by
  obtain ⟨f, raw, h1, h2, h3, h4⟩ := L.ex
  cases f with
  | zero => cases h1
  | succ f =>
    rw [ints_cons, PyFlat.calls] at h1
    rw [← ints_cons] at h1
    cases hc : PyFlat.call PyIe11.shape (Ie11.ints (p :: r)) with
    | none => rw [hc] at h1; cases h1
    | some q =>
      obtain ⟨cc, t⟩ := q
      rw [hc] at h1
      simp only [] at h1
      cases hcs : PyFlat.calls PyIe11.shape f t with
      | none => rw [hcs] at h1; cases h1
      | some cs =>
        rw [hcs] at h1
        have e1 := Option.some.inj h1
        subst e1
        have hp : p ≤ 12 := by
          by_cases z : p ≤ 12
          · exact z
          · rw [ints_cons, PyFlat.call, shape_big p z] at hc
            cases hc
        have hs := shape_tab p hp
        -- the call's lists, the rest
        have key : wn p ≤ r.length ∧ (hrw p = true → ∃ m r', r.drop (wn p) = m :: r' ∧ m ≤ r'.length) ∧ cc = (if hrw p then [Ie11.ints (p :: r.take (wn p)), Ie11.ints (rowN (wn p) (hrw p) r)] else [Ie11.ints (p :: r.take (wn p))]) ∧ t = Ie11.ints (restN (wn p) (hrw p) r) := by
          cases hh : hrw p with
          | false =>
            rw [hh] at hs
            obtain ⟨g1, g2⟩ := call0 hs hc
            obtain ⟨g3, g4⟩ := Prod.mk.inj g2
            exact ⟨g1, (fun z => by cases z), g3, g4⟩
          | true =>
            rw [hh] at hs
            obtain ⟨g1, m, r', g2, g3, g4⟩ := call1 hs hc
            obtain ⟨g5, g6⟩ := Prod.mk.inj g4
            have e0 : r.drop (wn p + 1) = r' := by
              have := congrArg (List.drop 1) g2
              rw [List.drop_drop] at this
              exact this
            have e2 : rowN (wn p) true r = r'.take m := by
              unfold rowN
              rw [if_pos rfl, e0, g2]
              rfl
            have e3 : restN (wn p) true r = r'.drop m := by
              unfold restN
              rw [if_pos rfl, e0, g2]
              rfl
            refine ⟨g1, fun _ => ⟨m, r', g2, g3⟩, ?_, ?_⟩
            · rw [e2, if_pos rfl]
              exact g5
            · rw [e3]
              exact g6
        obtain ⟨k1, k2, k3, k4⟩ := key
        have hrow : hrw p = false → rowN (wn p) (hrw p) r = [] := fun z => by
          rw [z]
          rfl
        obtain ⟨c, c1, c2, c3⟩ := call_is p r (rowN (wn p) (hrw p) r) hp k1 hrow
        rw [← k3] at c2
        have b1 : PyInside.call PyIe11.bound cc = true ∧ PyInside.calls PyIe11.bound cs = true := by
          unfold PyInside.calls at h2 ⊢
          rw [List.all_cons, Bool.and_eq_true] at h2
          exact h2
        have a1 : Ie11Neutral.asked1 (Ie11.ints (p :: (r.take (wn p) ++ rowN (wn p) (hrw p) r))) = true ∧ ((cs.map PyIe11.whole).map fun c => c.headD []).all Ie11Neutral.asked1 = true := by
          rw [List.map_cons, List.map_cons, List.all_cons, Bool.and_eq_true, c2] at h3
          exact h3
        refine ⟨hp, k1, fun z => ?_, c, _, c1, ⟨f, cs, ?_, b1.2, a1.2, rfl⟩, ?_⟩
        · obtain ⟨m, r', g1, g2⟩ := k2 z
          refine ⟨m, r', g1, g2, ?_⟩
          rw [z, if_pos rfl] at k3
          have := b1.1
          rw [k3] at this
          refine row_bound hp z this ?_
          rw [ints_len]
          unfold rowN
          have e0 : r.drop (wn p + 1) = r' := by
            have := congrArg (List.drop 1) g1
            rw [List.drop_drop] at this
            exact this
          rw [if_pos rfl, e0, g1, List.length_take]
          show min m r'.length = m
          omega
        · rw [← k4]
          exact hcs
        · have st : stp s (PyIe11.whole cc) = Ie11.step s c := by
            unfold stp
            rw [c2]
            exact step_of a1.1 c3 s
          rw [h4, List.map_cons, PyFlat.played, st]
          rfl
/-- the beginning -/
theorem Left.start {ms : NL} (h : PyIe11.answers_asked (Ie11.ints ms) = true) : Left ms Ie11.init (PyIe11.answers (Ie11.ints ms)) ∧ (PyIe11.answers (Ie11.ints ms)).length ≤ 10000000 := by
  unfold PyIe11.answers_asked at h
  cases hc : PyFlat.calls PyIe11.shape (Ie11.ints ms).length (Ie11.ints ms) with
  | none => rw [hc] at h; cases h
  | some raw =>
    rw [hc] at h
    simp only [Bool.and_eq_true] at h
    obtain ⟨⟨⟨⟨_, _⟩, h3⟩, h4⟩, h5⟩ := h
    unfold Ie11Neutral.asked at h4
    rw [Bool.and_eq_true] at h4
    refine ⟨⟨_, raw, hc, h3, h4.1, ?_⟩, of_decide_eq_true h5⟩
    unfold PyIe11.answers PyIe11.calls
    rw [hc]
    rfl
end Pf
end
section
/-! The mathematics of a file mended. -/
namespace Pf
open Ie11
/-- what is left out at the beginning -/
def cutBegin (b : NL) : NL := if b.take 2 = [80, 73] then b.drop 2 else b
/-- all parts that are saved -/
def savedAll (c : NL) : List Part := (saved (c.length + 1) 0 c).map fun q => q.2
def isPg (p : Part) : Bool := p.kind == 1 && (pageBody p.body).isSome
theorem isPg_eq (p : Part) : (p.kind == 1 && (match p.body with
    | [w, h] => decide (1 ≤ w) && (decide (w ≤ 8) && (decide (1 ≤ h) && decide (h ≤ 8)))
    | _ => false)) = isPg p := by
  unfold isPg
  congr 1
  unfold pageBody
  split
  · rename_i w h e
    rw [e]
    simp only []
    by_cases c : 1 ≤ w ∧ w ≤ 8 ∧ 1 ≤ h ∧ h ≤ 8
    · have hp : pageOk w h = true := decide_eq_true c
      rw [if_pos hp, decide_eq_true c.1, decide_eq_true c.2.1, decide_eq_true c.2.2.1, decide_eq_true c.2.2.2]
      rfl
    · have hp : ¬ pageOk w h = true := fun z => c (of_decide_eq_true z)
      rw [if_neg hp]
      show _ = false
      by_cases c1 : 1 ≤ w
      · by_cases c2 : w ≤ 8
        · by_cases c3 : 1 ≤ h
          · rw [decide_eq_false (by omega : ¬ h ≤ 8)]
            simp
          · rw [decide_eq_false c3]
            simp
        · rw [decide_eq_false c2]
          simp
      · rw [decide_eq_false c1]
        simp
  · rename_i g
    split
    · rename_i w h e
      exact absurd e (g w h)
    · rfl
def laysOf (w h : Nat) (ps : List Part) : List Layer := (ps.filter fun q => q.kind == 2).filterMap fun q => readLayer w h q.body
def othsOf (ps : List Part) : List Part := ps.filter fun q => decide (2 < q.kind)
theorem mended_eq (b : NL) : mended b = ((savedAll (cutBegin b)).find? isPg).map fun p => ⟨p.body.getD 0 1, p.body.getD 1 1, (laysOf (p.body.getD 0 1) (p.body.getD 1 1) (savedAll (cutBegin b))).take 6, (othsOf (savedAll (cutBegin b))).take 6⟩ := by
  have e : isPg = fun (p : Part) => (p.kind == 1 && (match p.body with
    | [w, h] => decide (1 ≤ w) && (decide (w ≤ 8) && (decide (1 ≤ h) && decide (h ≤ 8)))
    | _ => false)) := by
    funext p
    exact (isPg_eq p).symm
  rw [e]
  rfl
/-- the page that is saved -/
def pageSaved : List Part → Option (Nat × Nat)
  | [] => none
  | p :: ps => if p.kind = 1 then (match pageBody p.body with
    | some q => some q
    | none => pageSaved ps) else pageSaved ps
theorem find_page : ∀ ps : List Part, (ps.find? isPg).map (fun p => (p.body.getD 0 1, p.body.getD 1 1)) = pageSaved ps
  | [] => rfl
  | p :: ps => by
    have ih := find_page ps
    rw [List.find?_cons, pageSaved]
    by_cases k : p.kind = 1
    · rw [if_pos k]
      cases hb : pageBody p.body with
      | none =>
        have : isPg p = false := by
          unfold isPg
          rw [hb]
          simp
        rw [this]
        exact ih
      | some q =>
        obtain ⟨w, h⟩ := q
        have : isPg p = true := by
          unfold isPg
          rw [hb, k]
          rfl
        rw [this]
        obtain ⟨e, _⟩ := pageBody_some hb
        simp only [Option.map_some]
        rw [e]
        rfl
    · have : isPg p = false := by
        unfold isPg
        rw [show (p.kind == 1) = false by simp [k]]
        rfl
      rw [if_neg k, this]
      exact ih
theorem mended_page (b : NL) : mended b = (pageSaved (savedAll (cutBegin b))).map fun q => ⟨q.1, q.2, (laysOf q.1 q.2 (savedAll (cutBegin b))).take 6, (othsOf (savedAll (cutBegin b))).take 6⟩ := by
  rw [mended_eq, ← find_page]
  cases (savedAll (cutBegin b)).find? isPg <;> rfl
theorem pageSaved_ok : ∀ (ps : List Part) (w h : Nat), pageSaved ps = some (w, h) → 1 ≤ w ∧ w ≤ 8 ∧ 1 ≤ h ∧ h ≤ 8
  | [], _, _, e => by cases e
  | p :: ps, w, h, e => by
    rw [pageSaved] at e
    split at e
    · split at e
      · rename_i q hq
        cases e
        exact (pageBody_some hq).2
      · exact pageSaved_ok ps w h e
    · exact pageSaved_ok ps w h e
theorem pageSaved_app : ∀ (ps qs : List Part), pageSaved (ps ++ qs) = (match pageSaved ps with
    | some x => some x
    | none => pageSaved qs)
  | [], qs => rfl
  | p :: ps, qs => by
    rw [List.cons_append, pageSaved, pageSaved]
    split
    · split
      · rfl
      · exact pageSaved_app ps qs
    · exact pageSaved_app ps qs
theorem pageSaved_snoc (ps : List Part) (p : Part) : pageSaved (ps ++ [p]) = (match pageSaved ps with
    | some x => some x
    | none => if p.kind = 1 then pageBody p.body else none) := by
  rw [pageSaved_app]
  split
  · rfl
  · rw [pageSaved]
    split
    · cases pageBody p.body <;> rfl
    · rfl
/-! ### what is saved, place by place -/
/-- i bytes are gone through, acc is saved so far -/
def Svg (c : NL) (i : Nat) (acc : List Part) : Prop := i ≤ c.length ∧ ∃ k a, c.length - i < k ∧ savedAll c = acc ++ (saved k a (c.drop i)).map fun q => q.2
theorem Svg.start (c : NL) : Svg c 0 [] := ⟨Nat.zero_le _, c.length + 1, 0, by omega, rfl⟩
theorem Svg.skip {c : NL} {i : Nat} {acc : List Part} (S : Svg c i acc) (h : i < c.length) (hw : wholePart c i = none) : Svg c (i + 1) acc := by
  obtain ⟨_, k, a, hk, e⟩ := S
  obtain ⟨k, rfl⟩ : ∃ j, k = j + 1 := ⟨k - 1, by omega⟩
  refine ⟨h, k, a + 1, by omega, ?_⟩
  rw [e]
  congr 2
  have e1 := firstPart_at c i
  rw [hw] at e1
  rw [List.drop_eq_getElem_cons h] at e1 ⊢
  rw [saved]
  rw [e1]
  rfl
theorem Svg.part {c : NL} {i : Nat} {acc : List Part} {z : Nat × NL × Nat} (S : Svg c i acc) (h : i < c.length) (hw : wholePart c i = some z) : Svg c z.2.2 (acc ++ [⟨z.1, z.2.1⟩]) := by
  obtain ⟨_, k, a, hk, e⟩ := S
  obtain ⟨k, rfl⟩ : ∃ j, k = j + 1 := ⟨k - 1, by omega⟩
  have f := wholePart_facts hw
  refine ⟨f.2.1, k, a + ((c.drop i).length - (c.drop z.2.2).length), by omega, ?_⟩
  rw [e]
  have e1 := firstPart_at c i
  rw [hw] at e1
  have e2 := List.drop_eq_getElem_cons h
  rw [e2] at e1 ⊢
  rw [saved]
  rw [e1]
  simp only [Option.map_some, List.map_cons, List.append_assoc]
  rfl
theorem Svg.done {c : NL} {acc : List Part} (S : Svg c c.length acc) : savedAll c = acc := by
  obtain ⟨_, k, a, hk, e⟩ := S
  rw [List.drop_of_length_le (Nat.le_refl _)] at e
  rw [e]
  cases k <;> simp [saved]
theorem savedAll_mem {c : NL} : ∀ p ∈ savedAll c, p.body.length ≤ c.length ∧ ∀ x ∈ p.body, x ∈ c := by
  have key : ∀ (k a : Nat) (b : NL), (∀ x ∈ b, x ∈ c) → b.length ≤ c.length → ∀ q ∈ saved k a b, q.2.body.length ≤ c.length ∧ ∀ x ∈ q.2.body, x ∈ c := by
    intro k
    induction k with
    | zero => intro a b _ _ q hq; cases hq
    | succ k ih =>
      intro a b hb hl q hq
      cases b with
      | nil => cases hq
      | cons y r =>
        rw [saved] at hq
        cases hf : firstPart (y :: r) with
        | none =>
          rw [hf] at hq
          exact ih _ _ (fun x hx => hb x (List.mem_cons_of_mem _ hx)) (by simp at hl; omega) q hq
        | some z =>
          obtain ⟨p, t⟩ := z
          rw [hf] at hq
          have e := firstPart_at (y :: r) 0
          rw [List.drop_zero, hf] at e
          cases hw : wholePart (y :: r) 0 with
          | none => rw [hw] at e; cases e
          | some u =>
            rw [hw] at e
            have e2 := Option.some.inj e
            obtain ⟨e3, e4⟩ := Prod.mk.inj e2
            have f := wholePart_facts hw
            rcases List.mem_cons.mp hq with h | h
            · subst h
              rw [e3]
              refine ⟨?_, fun x hx => hb x (f.2.2.2.1 x hx)⟩
              have := f.2.2.1
              have := f.2.1
              show u.2.1.length ≤ c.length
              omega
            · refine ih _ _ (fun x hx => ?_) ?_ q h
              · rw [e4] at hx
                exact hb x (List.mem_of_mem_drop hx)
              · rw [e4, List.length_drop]
                omega
  intro p hp
  unfold savedAll at hp
  obtain ⟨q, hq, rfl⟩ := List.mem_map.mp hp
  exact key _ _ c (fun x hx => hx) (Nat.le_refl _) q hq
/-! ### the layers and the others, part by part -/
def mendP (x : Doc) (p : Part) : Doc := if p.kind < 2 then x else (takeP x p.kind p.body 0).2
theorem take_snoc6 {α : Type} (l : List α) (y : α) : (l ++ [y]).take 6 = if 6 ≤ l.length then l.take 6 else l.take 6 ++ [y] := by
  by_cases h : 6 ≤ l.length
  · rw [if_pos h, List.take_append_of_le_length h]
  · rw [if_neg h, List.take_of_length_le (by simp; omega), List.take_of_length_le (by omega)]
theorem mendP_fold (w h : Nat) : ∀ ps : List Part, ps.foldl mendP ⟨w, h, [], []⟩ = ⟨w, h, (laysOf w h ps).take 6, (othsOf ps).take 6⟩ := by
  have key : ∀ n (ps : List Part), ps.length = n → ps.foldl mendP ⟨w, h, [], []⟩ = ⟨w, h, (laysOf w h ps).take 6, (othsOf ps).take 6⟩ := by
    intro n
    induction n with
    | zero =>
      intro ps hn
      have : ps = [] := List.length_eq_zero_iff.mp hn
      subst this
      rfl
    | succ n ih =>
      intro ps hn
      have hne : ps ≠ [] := fun z => by rw [z] at hn; cases hn
      rw [← List.dropLast_concat_getLast hne]
      generalize ps.getLast hne = p
      have hn' : ps.dropLast.length = n := by rw [List.length_dropLast]; omega
      generalize ps.dropLast = qs at hn'
      rw [List.foldl_append, ih qs hn']
      show mendP _ p = _
      unfold mendP
      have l1 : laysOf w h (qs ++ [p]) = laysOf w h qs ++ laysOf w h [p] := by
        unfold laysOf
        rw [List.filter_append, List.filterMap_append]
      have o1 : othsOf (qs ++ [p]) = othsOf qs ++ othsOf [p] := by
        unfold othsOf
        rw [List.filter_append]
      have six : ∀ {α : Type} (l : List α), (6 ≤ (l.take 6).length) ↔ 6 ≤ l.length := fun l => by
        rw [List.length_take]
        omega
      by_cases k : p.kind < 2
      · rw [if_pos k]
        have l2 : laysOf w h [p] = [] := by
          unfold laysOf
          rw [List.filter_cons_of_neg (by simp; omega)]
          rfl
        have o2 : othsOf [p] = [] := by
          unfold othsOf
          rw [List.filter_cons_of_neg (by simp; omega)]
          rfl
        rw [l1, o1, l2, o2, List.append_nil, List.append_nil]
      · rw [if_neg k]
        unfold takeP
        rw [if_neg (by omega), if_neg (by omega)]
        by_cases k2 : p.kind = 2
        · rw [if_pos k2]
          have o2 : othsOf [p] = [] := by
            unfold othsOf
            rw [List.filter_cons_of_neg (by simp; omega)]
            rfl
          rw [o1, o2, List.append_nil, l1]
          have l2 : laysOf w h [p] = (readLayer w h p.body).toList := by
            unfold laysOf
            rw [List.filter_cons_of_pos (by simp [k2])]
            simp only [List.filter_nil, List.filterMap_cons, List.filterMap_nil]
            cases readLayer w h p.body <;> rfl
          rw [l2]
          simp only []
          cases hl : readLayer w h p.body with
          | none => simp
          | some l =>
            simp only [Option.toList_some]
            rw [take_snoc6]
            by_cases c : 6 ≤ (laysOf w h qs).length
            · rw [if_pos c, if_pos ((six _).mpr c)]
            · rw [if_neg c, if_neg (fun z => c ((six _).mp z))]
        · rw [if_neg k2]
          have l2 : laysOf w h [p] = [] := by
            unfold laysOf
            rw [List.filter_cons_of_neg (by simp; omega)]
            rfl
          have o2 : othsOf [p] = [p] := by
            unfold othsOf
            rw [List.filter_cons_of_pos (by simp; omega)]
            rfl
          rw [l1, l2, List.append_nil, o1, o2, take_snoc6]
          simp only []
          by_cases c : 6 ≤ (othsOf qs).length
          · rw [if_pos c, if_pos ((six _).mpr c)]
          · rw [if_neg c, if_neg (fun z => c ((six _).mp z))]
  exact fun ps => key _ ps rfl
end Pf
end
section
/-! What is saved, by the places of the whole list. -/
namespace Pf
open Ie11
theorem getD_drop (b : NL) (o i : Nat) : (b.drop o).getD i 0 = b.getD (o + i) 0 := by
  rw [List.getD_eq_getElem?_getD, List.getD_eq_getElem?_getD, List.getElem?_drop]
theorem wholePart_drop {b : NL} {o : Nat} (i : Nat) (ho : o ≤ b.length) : wholePart b (o + i) = (wholePart (b.drop o) i).map fun z => (z.1, z.2.1, o + z.2.2) := by
  unfold wholePart
  simp only [getD_drop, List.drop_drop, List.length_drop]
  rw [show o + (i + 1) = o + i + 1 by omega, show o + (i + 2) = o + i + 2 by omega]
  generalize b.getD (o + i + 1) 0 * 256 + b.getD (o + i + 2) 0 = n
  rw [show o + (i + 3 + n) = o + i + 3 + n by omega, show o + (i + 3) = o + i + 3 by omega]
  by_cases c : b.length < o + i + 3
  · rw [if_pos c, if_pos (show b.length - o < i + 3 by omega)]
    rfl
  · rw [if_neg c, if_neg (show ¬ b.length - o < i + 3 by omega)]
    by_cases c2 : b.length < o + i + 3 + n + 2
    · rw [if_pos c2, if_pos (show b.length - o < i + 3 + n + 2 by omega)]
      rfl
    · rw [if_neg c2, if_neg (show ¬ b.length - o < i + 3 + n + 2 by omega)]
      split
      · simp only [Option.map_some]
        rw [show o + (i + 3 + n + 2) = o + i + 3 + n + 2 by omega]
      · rfl
/-- how many bytes are left out at the beginning -/
def offB (b : NL) : Nat := if b.take 2 = [80, 73] then 2 else 0
theorem offB_le (b : NL) : offB b ≤ b.length := by
  unfold offB
  split
  · rename_i h
    have := congrArg List.length h
    rw [List.length_take] at this
    simp at this
    omega
  · exact Nat.zero_le _
theorem cutBegin_eq (b : NL) : cutBegin b = b.drop (offB b) := by
  unfold cutBegin offB
  split <;> rfl
/-- the place i of the whole list is reached, acc is saved so far -/
def Svb (b : NL) (i : Nat) (acc : List Part) : Prop := offB b ≤ i ∧ i ≤ b.length ∧ Svg (cutBegin b) (i - offB b) acc
theorem Svb.start (b : NL) : Svb b (offB b) [] := ⟨Nat.le_refl _, offB_le b, by rw [Nat.sub_self]; exact Svg.start _⟩
theorem cutBegin_len (b : NL) : (cutBegin b).length = b.length - offB b := by rw [cutBegin_eq, List.length_drop]
theorem Svb.at_ {b : NL} {i : Nat} {acc : List Part} (S : Svb b i acc) : wholePart b i = (wholePart (cutBegin b) (i - offB b)).map fun z => (z.1, z.2.1, offB b + z.2.2) := by
  have e := wholePart_drop (i - offB b) (offB_le b)
  rw [show offB b + (i - offB b) = i by have := S.1; omega, ← cutBegin_eq] at e
  exact e
theorem Svb.skip {b : NL} {i : Nat} {acc : List Part} (S : Svb b i acc) (h : i < b.length) (hw : wholePart b i = none) : Svb b (i + 1) acc := by
  have h1 := S.1
  refine ⟨by omega, h, ?_⟩
  rw [show i + 1 - offB b = i - offB b + 1 by omega]
  refine S.2.2.skip (by rw [cutBegin_len]; omega) ?_
  rw [S.at_] at hw
  cases e : wholePart (cutBegin b) (i - offB b) with
  | none => rfl
  | some z => rw [e] at hw; cases hw
theorem Svb.part {b : NL} {i : Nat} {acc : List Part} {z : Nat × NL × Nat} (S : Svb b i acc) (h : i < b.length) (hw : wholePart b i = some z) : Svb b z.2.2 (acc ++ [⟨z.1, z.2.1⟩]) := by
  have h1 := S.1
  have f := wholePart_facts hw
  rw [S.at_] at hw
  cases e : wholePart (cutBegin b) (i - offB b) with
  | none => rw [e] at hw; cases hw
  | some y =>
    rw [e] at hw
    have ez := Option.some.inj hw
    have := S.2.2.part (by rw [cutBegin_len]; omega) e
    rw [← ez]
    refine ⟨by simp only []; omega, ?_, ?_⟩
    · rw [← ez] at f
      exact f.2.1
    · simp only []
      rw [show offB b + y.2.2 - offB b = y.2.2 by omega]
      exact this
theorem Svb.done {b : NL} {acc : List Part} (S : Svb b b.length acc) : savedAll (cutBegin b) = acc := by
  have := S.2.2
  rw [← cutBegin_len] at this
  exact this.done
theorem saved_mem {b : NL} : ∀ p ∈ savedAll (cutBegin b), p.body.length ≤ b.length ∧ ∀ x ∈ p.body, x ∈ b := fun p hp => by
  have := savedAll_mem p hp
  rw [cutBegin_len] at this
  refine ⟨by omega, fun x hx => ?_⟩
  have := this.2 x hx
  rw [cutBegin_eq] at this
  exact List.mem_of_mem_drop this
theorem cutBegin_off (b : NL) : cutBegin b = b.drop (offB b) := cutBegin_eq b
theorem mended_none {b : NL} (h : pageSaved (savedAll (cutBegin b)) = none) : mended b = none := by
  rw [mended_page, h]
  rfl
theorem mended_some {b : NL} {w h : Nat} (e : pageSaved (savedAll (cutBegin b)) = some (w, h)) : mended b = some ((savedAll (cutBegin b)).foldl mendP ⟨w, h, [], []⟩) := by
  rw [mended_page, e, mendP_fold]
  rfl
theorem sum_cast (l : NL) : ((Ie11.ints l).sum : Int) = ((l.foldl (fun a b => a + b) 0 : Nat) : Int) := by
  have key : ∀ (l : NL) (a : Nat), ((l.foldl (fun a b => a + b) a : Nat) : Int) = (a : Int) + (Ie11.ints l).sum := by
    intro l
    induction l with
    | nil => intro a; simp [Ie11.ints]
    | cons x r ih =>
      intro a
      rw [List.foldl_cons, ih (a + x)]
      unfold Ie11.ints
      simp only [List.map_cons, List.sum_cons]
      omega
  have := key l 0
  simp only [Int.natCast_zero, Int.zero_add] at this
  exact this.symm
end Pf
end
section
set_option Elab.async false
set_option linter.all false
set_option maxRecDepth 100000
set_option maxHeartbeats 4000000
namespace Pf
open PySem PySem.Spec PyProof.Rows L2
/-! ### the text by places -/
def top (i : Nat) : Stmt := PySem.Challenge.pw_picturefile_s01_answers.main.body.getD i (.Pass ⟨0, 0, 0, 0⟩)
/-! ### values -/
def nv (l : NL) : List V := l.map fun (n : Nat) => V.int (n : Int)
theorem nv_len (l : NL) : (nv l).length = l.length := by unfold nv; exact List.length_map _
theorem nv_get {l : NL} {i x : Nat} (h : l[i]? = some x) : (nv l)[i]? = some (.int (x : Int)) := by
  unfold nv
  rw [List.getElem?_map, h]
  rfl
theorem nv_at {l : NL} {i x : Nat} (h : l[i]? = some x) : atI (nv l) (i : Int) = some (.int (x : Int)) := atI_nat (nv_get h)
theorem nv_of {l : NL} {i : Nat} {v : V} (h : (nv l)[i]? = some v) : ∃ x : Nat, l[i]? = some x ∧ v = .int (x : Int) := by
  unfold nv at h
  rw [List.getElem?_map] at h
  cases e : l[i]? with
  | none => rw [e] at h; cases h
  | some x => rw [e] at h; exact ⟨x, rfl, (Option.some.inj h).symm⟩
theorem nv_app (l r : NL) : nv (l ++ r) = nv l ++ nv r := List.map_append
theorem nv_cons (x : Nat) (r : NL) : nv (x :: r) = .int (x : Int) :: nv r := rfl
theorem nv_rep (n x : Nat) : nv (List.replicate n x) = List.replicate n (.int (x : Int)) := by
  unfold nv
  rw [List.map_replicate]
theorem take_min {α : Type} (l : List α) (k : Nat) : l.take (min k l.length) = l.take k := by
  by_cases h : k ≤ l.length
  · rw [Nat.min_eq_left h]
  · rw [Nat.min_eq_right (by omega), List.take_length, List.take_of_length_le (by omega)]
theorem cut_nv (l : NL) (i j : Nat) : cutV (nv l) (some (i : Int)) (some (j : Int)) = nv ((l.drop i).take (j - i)) := by
  unfold cutV
  rw [HT.sIx_nat, HT.sIx_nat, nv_len]
  unfold nv
  rw [← List.map_drop, ← List.map_take]
  congr 1
  by_cases h : i ≤ l.length
  · rw [Nat.min_eq_left h, ← take_min (l.drop i) (min j l.length - i), ← take_min (l.drop i) (j - i), List.length_drop]
    congr 1
    omega
  · rw [Nat.min_eq_right (by omega : l.length ≤ i), List.drop_of_length_le (Nat.le_refl _), List.drop_of_length_le (by omega : l.length ≤ i)]
    simp
theorem cut_nv0 (l : NL) (j : Nat) : cutV (nv l) none (some (j : Int)) = nv (l.take j) := by
  unfold cutV
  rw [HT.sIx_nat, HT.sIx_none, nv_len]
  unfold nv
  rw [← List.map_drop, ← List.map_take, List.drop_zero, Nat.sub_zero, Nat.min_comm, Nat.min_comm l.length, take_min]
/-! ### heaps -/
theorem same_upd {H : Hp} {p : Addr} {o : HO} (h : H p = none) : Same H (upd H p o) := fun b x e => by
  rw [upd_ne (ne_of_none e h)]
  exact e
/-- a thing of its own, new since H, changed -/
theorem same_set {H H1 : Hp} {p : Addr} {o : HO} (s : Same H H1) (h : H p = none) : Same H (upd H1 p o) := fun b x e => by
  rw [upd_ne (ne_of_none e h)]
  exact s _ _ e
theorem small {n : Nat} (h : n ≤ 100000) : n ≤ sizeLine := Nat.le_trans h (by decide)
theorem smalls {n : Nat} (h : n ≤ 100000) : n < sizeLine := Nat.lt_of_le_of_lt h (by decide)
/-! ### constants, callees -/
def KInt (mg : Str → Option Value) (x : Str) (v : Int) : Prop := ∃ t, mg x = some (.int v t)
section
variable {X : Cx}
theorem pe_k {x : Str} {v : Int} {pos : Pos} (h : KInt X.mg x v) (hg : Gl X x := by rfl) (hd : (x == ("__debug__" : Str)) = false := by decide) : PE X (.Name x pos) (tC (.int v)) := by
  obtain ⟨t, h⟩ := h
  exact pe_glob hg h ⟨t, rfl⟩ hd
end
structure Callee (P : Program) (w : World) (K : PySem.W.Frag) (mg : Str → Option Value) (base : Heap) (k : Nat) (x : Str) (ps : List Str) (sp : Sp) : Prop where
  ex : ∃ (f : Addr) (fd : FuncData), FnOk P w K mg base CX0 k f fd ps sp ∧ mg x = some (.ref f) ∧ PySem.W.keepIn K (.ref f) = true ∧ Binds K fd ps []
structure Maker (P : Program) (w : World) (K : PySem.W.Frag) (mg : Str → Option Value) (base : Heap) (k : Nat) (x : Str) (C : Addr) (ps : List Str) (sp : Sp) : Prop where
  ex : ∃ (f : Addr) (fd : FuncData), Mk K C f ∧ FnOk P w K mg base CX0 k f fd ps sp ∧ mg x = some (.ref C) ∧ Binds K fd ps []
structure Method (P : Program) (w : World) (K : PySem.W.Frag) (mg : Str → Option Value) (base : Heap) (k : Nat) (m : Str) (C : Addr) (ps : List Str) (sp : Sp) : Prop where
  cl : Cls K C
  ex : ∃ (f : Addr) (fd : FuncData), Meth K C m f ∧ FnOk P w K mg base CX0 k f fd ps sp ∧ Binds K fd ps []
section
variable {X : Cx} {k : Nat} {ps : List Str} {sp : Sp} {x : Str} {e : Expr} {es : List Expr} {t : TA} {p pos : Pos}
theorem pe_cc (C : Callee X.prog X.w X.K X.mg X.base k x ps sp) (hr : Room k X.A) (ha : PA X (e :: es) t) (hg : Gl X x := by rfl) (hdb : (x == ("__debug__" : Str)) = false := by decide) (he : starEach (e :: es) X.env = (false, eval e X.env) :: starEach es X.env := by rfl) (hpl : (backTo pos (starEach es X.env)).any (·.1) = false := by rfl) :
    PE X (.Call (.Name x p) (e :: es) [] pos) (tCall sp [] E0 t) := by
  obtain ⟨f, fd, F, hm, hk, hb⟩ := C.ex
  exact pe_call F hr hg hm hk hb .nil pass0 ha hdb he hpl
theorem pe_mkc {C : Addr} (M : Maker X.prog X.w X.K X.mg X.base k x C ps sp) (hr : Room (k + 1) X.A) (ha : PA X (e :: es) t) (hg : Gl X x := by rfl) (hdb : (x == ("__debug__" : Str)) = false := by decide) (he : starEach (e :: es) X.env = (false, eval e X.env) :: starEach es X.env := by rfl) (hpl : (backTo pos (starEach es X.env)).any (·.1) = false := by rfl) :
    PE X (.Call (.Name x p) (e :: es) [] pos) (tMake C sp [] E0 t) := by
  obtain ⟨f, fd, M, F, hm, hb⟩ := M.ex
  exact pe_make M F hr hg hm hb .nil pass0 ha hdb he hpl
theorem pe_mtc {C : Addr} {m : Str} {apos : Pos} {o : Expr} {ta : TE} {pl : Sem Bool} (he : PE X o ta) (M : Method X.prog X.w X.K X.mg X.base k m C ps sp) (hr : Room k X.A) (ha : PA X (e :: es) t)
    (hst : starEach (e :: es) X.env = (false, eval e X.env) :: starEach es X.env := by rfl) (hpl : (backTo pos (starEach es X.env)).any (·.1) = false := by rfl)
    (ht : eval (.Call (.Attribute o m apos) (e :: es) [] pos) X.env = (do
      let ov ← eval o X.env
      standAt apos.atName
      let (f, first) ← holding [ov] (getMethod ov m pl)
      callWith pos f first (backTo pos (starEach (e :: es) X.env)) (backToKw pos (keywordEach [] X.env))) := by rfl) :
    PE X (.Call (.Attribute o m apos) (e :: es) [] pos) (tMeth C m sp [] E0 ta t) := by
  obtain ⟨f, fd, hm, F, hb⟩ := M.ex
  exact pe_meth (pl := pl) he M.cl hm F hr hb .nil pass0 ha hst hpl ht
end
/-- where a def of the text stands -/
structure Loc (K : PySem.W.Frag) (mg : Str → Option Value) (x : Str) (st : Stmt) (ps : List Str) : Prop where
  ex : ∃ (f : Addr) (fd : FuncData), Fun K x x st f fd ∧ mg x = some (.ref f) ∧ Binds K fd ps []
theorem Loc.callee {P : Program} {w : World} {K : PySem.W.Frag} {mg : Str → Option Value} {base : Heap} {x : Str} {st : Stmt} {ps : List Str} {k : Nat} {sp : Sp} (L : Loc K mg x st ps) (h : ∀ f fd, Fun K x x st f fd → FnOk P w K mg base CX0 k f fd ps sp) : Callee P w K mg base k x ps sp := by
  obtain ⟨f, fd, F, hm, hb⟩ := L.ex
  exact ⟨f, fd, h f fd F, hm, F.kp, hb⟩
/-! ### what the top has written -/
structure Txt (K : PySem.W.Frag) (mg : Str → Option Value) : Prop where
  c_MOST_SIDE : KInt mg "MOST_SIDE" 8
  c_MOST_LAYERS : KInt mg "MOST_LAYERS" 6
  c_MOST_OTHERS : KInt mg "MOST_OTHERS" 6
  c_MOST_NAME : KInt mg "MOST_NAME" 12
  c_MOST_BYTE : KInt mg "MOST_BYTE" 255
  c_BYTE_VALUES : KInt mg "BYTE_VALUES" 256
  c_END_KIND : KInt mg "END_KIND" 0
  c_PAGE_KIND : KInt mg "PAGE_KIND" 1
  c_LAYER_KIND : KInt mg "LAYER_KIND" 2
  c_SUM_START : KInt mg "SUM_START" 7
  c_SUM_FACTOR : KInt mg "SUM_FACTOR" 31
  c_SUM_MODULUS : KInt mg "SUM_MODULUS" 65521
  c_AHEAD : KInt mg "AHEAD" 3
  c_BEHIND : KInt mg "BEHIND" 2
  c_FEWEST_ALIKE : KInt mg "FEWEST_ALIKE" 3
  c_MOST_ALIKE : KInt mg "MOST_ALIKE" 130
  c_MOST_UNLIKE : KInt mg "MOST_UNLIKE" 128
  c_FIRST_ALIKE : KInt mg "FIRST_ALIKE" 128
  c_ALIKE_MORE : KInt mg "ALIKE_MORE" 125
  c_AS_IT_IS : KInt mg "AS_IT_IS" 0
  c_LESS_BEFORE : KInt mg "LESS_BEFORE" 1
  c_LESS_ABOVE : KInt mg "LESS_ABOVE" 2
  c_NO_FAULT : KInt mg "NO_FAULT" 0
  c_WRONG_BEGINNING : KInt mg "WRONG_BEGINNING" 1
  c_WRONG_PART : KInt mg "WRONG_PART" 2
  c_WRONG_PLACE : KInt mg "WRONG_PLACE" 3
  c_WRONG_PAGE : KInt mg "WRONG_PAGE" 4
  c_WRONG_LAYER : KInt mg "WRONG_LAYER" 5
  c_WRONG_END : KInt mg "WRONG_END" 6
  c_TOO_MANY : KInt mg "TOO_MANY" 7
  c_PAGE : KInt mg "PAGE" 0
  c_LAYER : KInt mg "LAYER" 1
  c_CELLS : KInt mg "CELLS" 2
  c_OTHER : KInt mg "OTHER" 3
  c_DROP : KInt mg "DROP" 4
  c_WRITE : KInt mg "WRITE" 5
  c_READ : KInt mg "READ" 6
  c_MEND : KInt mg "MEND" 7
  c_SHOWS : KInt mg "SHOWS" 8
  c_LOOK : KInt mg "LOOK" 9
  c_OTHERS : KInt mg "OTHERS" 10
  c_SHORT : KInt mg "SHORT" 11
  c_OUT_OF_RANGE : KInt mg "OUT_OF_RANGE" (-1)
  c_ILL_FORMED : KInt mg "ILL_FORMED" (-2)
  c_FULL : KInt mg "FULL" (-5)
  c_NOT_SO_MANY : KInt mg "NOT_SO_MANY" (-6)
  c_NO_PAGE : KInt mg "NO_PAGE" (-13)
  c_FAULTS_FROM : KInt mg "FAULTS_FROM" (-10)
  c_MOST_OTHER_BYTES : KInt mg "MOST_OTHER_BYTES" 40
  c_MOST_SHORT : KInt mg "MOST_SHORT" 400
  b_len : mg "len" = none
  b_min : mg "min" = none
  b_all : mg "all" = none
  b_range : mg "range" = none
  b_zip : mg "zip" = none
  b_list : mg "list" = none
  b_tuple : mg "tuple" = none
  b_sum : mg "sum" = none
end Pf
end
section
set_option Elab.async false
set_option linter.all false
set_option maxRecDepth 100000
set_option maxHeartbeats 4000000
namespace Pf
open PySem PySem.Spec PyProof.Rows L2
section
variable {P : Program} {w : World} {K : PySem.W.Frag} {mg : Str → Option Value} {base : Heap}
/-! ### alike_from -/
/-- alike_from: slots 0 numbers 1 at 2 last 3 end -/
abbrev s_alike_from : Stmt := top 30
abbrev N_alike_from : List Str := ["numbers", "at", "last", "end"]
theorem sc_alike_from : FnScope N_alike_from ["numbers", "at"] (defScope s_alike_from) := ⟨rfl, rfl, rfl, by decide +kernel, rfl, by decide +kernel, by decide +kernel⟩
def spAlike : Sp := fun vs H Q _ => ∃ (a : Addr) (l : NL) (i : Nat), vs = [.ref a, .int (i : Int)] ∧ H a = some (.lst (nv l)) ∧ i < l.length ∧
  Q (.int ((min 130 (Ie11.runLength (l.drop i)) : Nat) : Int)) H
theorem ok_alike_from {f : Addr} {fd : FuncData} (T : Txt K mg) (F : Fun K "alike_from" "alike_from" s_alike_from f fd) : FnOk P w K mg base CX0 1 f fd ["numbers", "at"] spAlike := by
  refine F.ok sc_alike_from (fun vs H Q E h => ?_) (fun cdv A outer s H vs Q E hr h => ?_)
  · obtain ⟨a, l, i, rfl, _⟩ := h
    rfl
  · obtain ⟨a, l, i, rfl, ha, hi, q⟩ := h
    refine ⟨_, (pss_cons (ps_set (i := 2) sc_alike_from.nd rfl (Or.inl rfl) (pe_callB (call_min2 rfl) (by rfl) T.b_min (by decide +kernel) (pa_cons (pe_callB call_len_seq (by rfl) T.b_len PySem.boot_len (pa_cons (pv 0) pa_nil)) (pa_cons (pe_op op_add (pv 1) (pe_k T.c_MOST_ALIKE)) pa_nil))))
      (pss_cons (ps_set (i := 3) sc_alike_from.nd rfl (Or.inl rfl) (pv 1))
      (pss_cons (ps_while PassesOwn.never (PW.pt (pw_and (pt_cmpR op_lt (pv 3) (pv 2) (nomark _)) (pw_and1 (pt_cmpR op_eq (pe_ix ix_list (pv 0) (pv 3) (fun _ _ => rfl)) (pe_ix ix_list (pv 0) (pv 1) (fun _ _ => rfl)) (nomark _)))))
      (pss_one (ps_aug (i := 3) sc_alike_from.nd rfl (Or.inl rfl) pe_int ip_add)))
      (pss_one (ps_ret (pe_op op_sub (pv 3) (pv 1))))))), ?_⟩
    have hS : SqL K H a (nv l) := SqL.of ha
    obtain ⟨x0, hx0⟩ : ∃ x, l[i]? = some x := ⟨_, List.getElem?_eq_getElem hi⟩
    refine ⟨_, rfl, a, nv l, rfl, .inl hS, _, rfl, _, _, rfl, rfl, _, _, rfl, ?_⟩
    have em : (if ((i : Nat) : Int) + 130 < ((nv l).length : Int) then ((i : Nat) : Int) + 130 else ((nv l).length : Int)) = ((min l.length (i + 130) : Nat) : Int) := by
      rw [nv_len]
      split <;> omega
    refine ⟨_, rfl, ?_⟩
    refine ⟨fun m σ H' => H' = H ∧ ∃ e : Nat, σ = [some (.ref a), some (.int (i : Int)), some (.int ((min l.length (i + 130) : Nat) : Int)), some (.int (e : Int))] ∧ i ≤ e ∧ e ≤ min l.length (i + 130) ∧ (∀ j, j < e - i → (l.drop i)[j]? = some x0) ∧ m = l.length - e,
      ⟨_, rfl, i, ?_, Nat.le_refl _, by omega, fun j h => by omega, rfl⟩, ?_⟩
    · rw [← em]
      rfl
    · rintro m σ H' ⟨rfl, e, rfl, h1, h2, h3, rfl⟩
      have fin : ¬ (e - i < min (l.drop i).length 130 ∧ (l.drop i)[e - i]? = some x0) → Q (.int ((e : Int) - (i : Int))) H' := fun hn => by
        have r := run_end (l := l.drop i) (a := x0) (i := e - i) (by rw [List.getElem?_drop]; exact hx0) (by rw [List.length_drop]; omega) h3 hn
        rw [← r] at q
        rw [show (e : Int) - (i : Int) = ((e - i : Nat) : Int) by omega]
        exact q
      refine ⟨_, rfl, _, rfl, _, _, rfl, rfl, _, rfl, ite2 (fun c => ?_) (fun c => ?_)⟩
      · have c1 : e < min l.length (i + 130) := by
          have := of_decide_eq_true c
          omega
        obtain ⟨y, hy⟩ : ∃ y, l[e]? = some y := ⟨_, List.getElem?_eq_getElem (by omega)⟩
        refine ⟨_, rfl, _, rfl, a, nv l, _, _, rfl, rfl, hS, nv_at hy, _, rfl, _, rfl, a, nv l, _, _, rfl, rfl, hS, nv_at hx0, rfl, _, rfl, ite2 (fun c2 => ?_) (fun c2 => ?_)⟩
        · have ey : y = x0 := by
            have := V.int.inj (of_decide_eq_true c2)
            omega
          refine ⟨fun σ' H2 => H2 = H' ∧ σ' = [some (.ref a), some (.int (i : Int)), some (.int ((min l.length (i + 130) : Nat) : Int)), some (.int ((e + 1 : Nat) : Int))], ?_, ?_⟩
          · rintro σ' H2 ⟨rfl, rfl⟩
            refine ⟨l.length - (e + 1), by omega, rfl, e + 1, rfl, by omega, by omega, fun j hj => ?_, rfl⟩
            by_cases hj2 : j < e - i
            · exact h3 j hj2
            · have : j = e - i := by omega
              subst this
              rw [List.getElem?_drop, show i + (e - i) = e by omega, hy, ey]
          · exact ⟨_, rfl, _, _, rfl, rfl, rfl, rfl⟩
        · refine ⟨_, rfl, _, rfl, _, _, rfl, rfl, fin fun z => c2 ?_⟩
          rw [List.getElem?_drop, show i + (e - i) = e by omega, hy] at z
          have ey := Option.some.inj z.2
          subst ey
          exact decide_eq_true rfl
      · refine iteF ?_
        refine ⟨_, rfl, _, rfl, _, _, rfl, rfl, fin fun z => c (decide_eq_true ?_)⟩
        rw [List.length_drop] at z
        omega
/-! ### begins_alike -/
/-- begins_alike: slots 0 numbers 1 at -/
abbrev s_begins_alike : Stmt := top 31
abbrev N_begins_alike : List Str := ["numbers", "at"]
theorem sc_begins_alike : FnScope N_begins_alike ["numbers", "at"] (defScope s_begins_alike) := ⟨rfl, rfl, rfl, by decide +kernel, rfl, by decide +kernel, by decide +kernel⟩
def spBegins : Sp := fun vs H Q _ => ∃ (a : Addr) (l : NL) (i : Nat), vs = [.ref a, .int (i : Int)] ∧ H a = some (.lst (nv l)) ∧ i < l.length ∧
  Q (.bl (decide (3 ≤ Ie11.runLength (l.drop i)))) H
theorem ok_begins_alike {f : Addr} {fd : FuncData} (T : Txt K mg) (C_alike_from : Callee P w K mg base 1 "alike_from" ["numbers", "at"] spAlike) (F : Fun K "begins_alike" "begins_alike" s_begins_alike f fd) : FnOk P w K mg base CX0 2 f fd ["numbers", "at"] spBegins := by
  refine F.ok sc_begins_alike (fun vs H Q E h => ?_) (fun cdv A outer s H vs Q E hr h => ?_)
  · obtain ⟨a, l, i, rfl, _⟩ := h
    rfl
  · obtain ⟨a, l, i, rfl, ha, hi, q⟩ := h
    refine ⟨_, (pss_one (ps_ret (pe_cmpR op_ge (pe_cc C_alike_from (hr.mono (by decide)) (pa_cons (pv 0) (pa_cons (pv 1) pa_nil))) (pe_k T.c_FEWEST_ALIKE) (nomark _)))), ?_⟩
    refine ⟨_, rfl, _, rfl, a, l, i, rfl, ha, hi, _, _, rfl, rfl, ?_⟩
    have e : decide ((3 : Int) ≤ ((min 130 (Ie11.runLength (l.drop i)) : Nat) : Int)) = decide (3 ≤ Ie11.runLength (l.drop i)) := by
      congr 1
      apply propext
      omega
    show Q (.bl (decide ((3 : Int) ≤ ((min 130 (Ie11.runLength (l.drop i)) : Nat) : Int)))) H
    rw [e]
    exact q
/-! ### unlike_from -/
/-- unlike_from: slots 0 numbers 1 at 2 last 3 end -/
abbrev s_unlike_from : Stmt := top 32
abbrev N_unlike_from : List Str := ["numbers", "at", "last", "end"]
theorem sc_unlike_from : FnScope N_unlike_from ["numbers", "at"] (defScope s_unlike_from) := ⟨rfl, rfl, rfl, by decide +kernel, rfl, by decide +kernel, by decide +kernel⟩
def spUnlike : Sp := fun vs H Q _ => ∃ (a : Addr) (l : NL) (i : Nat), vs = [.ref a, .int (i : Int)] ∧ H a = some (.lst (nv l)) ∧ i < l.length ∧ Ie11.runLength (l.drop i) < 3 ∧
  Q (.int ((min 128 (Ie11.plainLength (l.drop i).length (l.drop i)) : Nat) : Int)) H
theorem ok_unlike_from {f : Addr} {fd : FuncData} (T : Txt K mg) (C_begins_alike : Callee P w K mg base 2 "begins_alike" ["numbers", "at"] spBegins) (F : Fun K "unlike_from" "unlike_from" s_unlike_from f fd) : FnOk P w K mg base CX0 3 f fd ["numbers", "at"] spUnlike := by
  refine F.ok sc_unlike_from (fun vs H Q E h => ?_) (fun cdv A outer s H vs Q E hr h => ?_)
  · obtain ⟨a, l, i, rfl, _⟩ := h
    rfl
  · obtain ⟨a, l, i, rfl, ha, hi, h0, q⟩ := h
    refine ⟨_, (pss_cons (ps_set (i := 2) sc_unlike_from.nd rfl (Or.inl rfl) (pe_callB (call_min2 rfl) (by rfl) T.b_min (by decide +kernel) (pa_cons (pe_callB call_len_seq (by rfl) T.b_len PySem.boot_len (pa_cons (pv 0) pa_nil)) (pa_cons (pe_op op_add (pv 1) (pe_k T.c_MOST_UNLIKE)) pa_nil))))
      (pss_cons (ps_set (i := 3) sc_unlike_from.nd rfl (Or.inl rfl) (pe_op op_add (pv 1) pe_int))
      (pss_cons (ps_while PassesOwn.never (PW.pt (pw_and (pt_cmpR op_lt (pv 3) (pv 2) (nomark _)) (pw_and1 (pt_not (pt_val (pe_cc C_begins_alike (hr.mono (by decide)) (pa_cons (pv 0) (pa_cons (pv 3) pa_nil))))))))
      (pss_one (ps_aug (i := 3) sc_unlike_from.nd rfl (Or.inl rfl) pe_int ip_add)))
      (pss_one (ps_ret (pe_op op_sub (pv 3) (pv 1))))))), ?_⟩
    have hS : SqL K H a (nv l) := SqL.of ha
    refine ⟨_, rfl, a, nv l, rfl, .inl hS, _, rfl, _, _, rfl, rfl, _, _, rfl, ?_⟩
    have em : (if ((i : Nat) : Int) + 128 < ((nv l).length : Int) then ((i : Nat) : Int) + 128 else ((nv l).length : Int)) = ((min l.length (i + 128) : Nat) : Int) := by
      rw [nv_len]
      split <;> omega
    refine ⟨_, rfl, _, _, rfl, rfl, ?_⟩
    refine ⟨fun m σ H' => H' = H ∧ ∃ e : Nat, σ = [some (.ref a), some (.int (i : Int)), some (.int ((min l.length (i + 128) : Nat) : Int)), some (.int (e : Int))] ∧ i + 1 ≤ e ∧ e ≤ min l.length (i + 128) ∧ (∀ j, j < e - i → Ie11.runLength ((l.drop i).drop j) < 3) ∧ m = l.length - e,
      ⟨_, rfl, i + 1, ?_, Nat.le_refl _, by omega, fun j h => ?_, rfl⟩, ?_⟩
    · rw [← em]
      rfl
    · have : j = 0 := by omega
      subst this
      exact h0
    · rintro m σ H' ⟨rfl, e, rfl, h1, h2, h3, rfl⟩
      have fin : ¬ (e - i < min (l.drop i).length 128 ∧ Ie11.runLength ((l.drop i).drop (e - i)) < 3) → Q (.int ((e : Int) - (i : Int))) H' := fun hn => by
        have r := plain_end (l := l.drop i) (k := (l.drop i).length) (i := e - i) (Nat.le_refl _) (by omega) (by rw [List.length_drop]; omega) h3 hn
        rw [← r] at q
        rw [show (e : Int) - (i : Int) = ((e - i : Nat) : Int) by omega]
        exact q
      have ed : (l.drop i).drop (e - i) = l.drop e := by
        rw [List.drop_drop]
        congr 1
        omega
      refine ⟨_, rfl, _, rfl, _, _, rfl, rfl, _, rfl, ite2 (fun c => ?_) (fun c => ?_)⟩
      · have c1 : e < min l.length (i + 128) := by
          have := of_decide_eq_true c
          omega
        refine ⟨_, rfl, _, rfl, a, l, e, rfl, ha, by omega, _, rfl, ?_⟩
        by_cases c2 : 3 ≤ Ie11.runLength (l.drop e)
        · rw [decide_eq_true c2]
          refine iteF ?_
          refine ⟨_, rfl, _, rfl, _, _, rfl, rfl, fin fun z => ?_⟩
          rw [ed] at z
          omega
        · rw [decide_eq_false c2]
          refine iteT ?_
          refine ⟨fun σ' H2 => H2 = H' ∧ σ' = [some (.ref a), some (.int (i : Int)), some (.int ((min l.length (i + 128) : Nat) : Int)), some (.int ((e + 1 : Nat) : Int))], ?_, ?_⟩
          · rintro σ' H2 ⟨rfl, rfl⟩
            refine ⟨l.length - (e + 1), by omega, rfl, e + 1, rfl, by omega, by omega, fun j hj => ?_, rfl⟩
            by_cases hj2 : j < e - i
            · exact h3 j hj2
            · have : j = e - i := by omega
              subst this
              rw [ed]
              omega
          · exact ⟨_, rfl, _, _, rfl, rfl, rfl, rfl⟩
      · refine iteF ?_
        refine ⟨_, rfl, _, rfl, _, _, rfl, rfl, fin fun z => c (decide_eq_true ?_)⟩
        rw [List.length_drop] at z
        omega
/-! ### in_short -/
/-- in_short: slots 0 numbers 1 told 2 at 3 count -/
abbrev s_in_short : Stmt := top 33
abbrev N_in_short : List Str := ["numbers", "told", "at", "count"]
theorem sc_in_short : FnScope N_in_short ["numbers"] (defScope s_in_short) := ⟨rfl, rfl, rfl, by decide +kernel, rfl, by decide +kernel, by decide +kernel⟩
def spInShort : Sp := fun vs H Q _ => ∃ (a : Addr) (l : NL), vs = [.ref a] ∧ H a = some (.lst (nv l)) ∧ l.length ≤ 3000 ∧
  ∀ H' p, Same H H' → H p = none → H' p = some (.lst (nv (Ie11.shortOf l))) → Q (.ref p) H'
theorem ok_in_short {f : Addr} {fd : FuncData} (T : Txt K mg) (C_alike_from : Callee P w K mg base 1 "alike_from" ["numbers", "at"] spAlike) (C_unlike_from : Callee P w K mg base 3 "unlike_from" ["numbers", "at"] spUnlike)
    (F : Fun K "in_short" "in_short" s_in_short f fd) : FnOk P w K mg base CX0 4 f fd ["numbers"] spInShort := by
  refine F.ok sc_in_short (fun vs H Q E h => ?_) (fun cdv A outer s H vs Q E hr h => ?_)
  · obtain ⟨a, l, rfl, _⟩ := h
    rfl
  · obtain ⟨a, l, rfl, ha, hlen, q⟩ := h
    refine ⟨_, (pss_cons (ps_set (i := 1) sc_in_short.nd rfl (Or.inl rfl) (pe_lst pa_nil))
      (pss_cons (ps_set (i := 2) sc_in_short.nd rfl (Or.inl rfl) pe_int)
      (pss_cons (ps_while PassesOwn.never (pt_cmpR op_lt (pv 2) (pe_callB call_len_seq (by rfl) T.b_len PySem.boot_len (pa_cons (pv 0) pa_nil)) (nomark _))
      (pss_cons (ps_set (i := 3) sc_in_short.nd rfl (Or.inl rfl) (pe_cc C_alike_from (hr.mono (by decide)) (pa_cons (pv 0) (pa_cons (pv 2) pa_nil))))
      (pss_cons (ps_if (pt_cmpR op_ge (pv 3) (pe_k T.c_FEWEST_ALIKE) (nomark _))
      (pss_cons (ps_expr (pe_bm PySem.F.plainAttrs_list PySem.F.slot_list_append PySem.F.type_list_append mt_append (pv 1) (pa_cons (pe_op op_add (pe_k T.c_ALIKE_MORE) (pv 3)) pa_nil)))
      (pss_one (ps_expr (pe_bm PySem.F.plainAttrs_list PySem.F.slot_list_append PySem.F.type_list_append mt_append (pv 1) (pa_cons (pe_ix ix_list (pv 0) (pv 2) (fun _ _ => rfl)) pa_nil)))))
      (pss_cons (ps_set (i := 3) sc_in_short.nd rfl (Or.inl rfl) (pe_cc C_unlike_from (hr.mono (by decide)) (pa_cons (pv 0) (pa_cons (pv 2) pa_nil))))
      (pss_cons (ps_expr (pe_bm PySem.F.plainAttrs_list PySem.F.slot_list_append PySem.F.type_list_append mt_append (pv 1) (pa_cons (pe_op op_sub (pv 3) pe_int) pa_nil)))
      (pss_one (ps_expr (pe_bm PySem.F.plainAttrs_list PySem.F.slot_list_extend PySem.F.type_list_extend mt_extend (pv 1) (pa_cons (pe_slice sl_list (pv 0) (po_some (pv 2)) (po_some (pe_op op_add (pv 2) (pv 3)))) pa_nil)))))))
      (pss_one (ps_aug (i := 2) sc_in_short.nd rfl (Or.inl rfl) (pv 3) ip_add)))))
      (pss_one (ps_ret (pv 1)))))), ?_⟩
    refine ⟨Nat.zero_le _, fun o no => ?_⟩
    have sl := shortOf_len _ l (Nat.le_refl _)
    refine ⟨fun m σ H' => Same H H' ∧ ∃ (i : Nat) (told : NL) (c : Option V), σ = [some (.ref a), some (.ref o), some (.int (i : Int)), c] ∧ i ≤ l.length ∧ H' o = some (.lst (nv told)) ∧ told ++ Ie11.shortOf (l.drop i) = Ie11.shortOf l ∧ m = l.length - i,
      ⟨_, same_upd no, 0, [], none, rfl, Nat.zero_le _, upd_same, rfl, rfl⟩, ?_⟩
    rintro m σ H' ⟨sm, i, told, c, rfl, hi, ho, he, rfl⟩
    have hL : H' a = some (.lst (nv l)) := sm _ _ ha
    have hS : SqL K H' a (nv l) := SqL.of hL
    have tl : told.length ≤ 2 * l.length := by
      have := congrArg List.length he
      rw [List.length_append] at this
      omega
    have nao : a ≠ o := ne_of_none ha no
    refine ⟨_, rfl, _, rfl, a, nv l, rfl, .inl hS, _, _, rfl, rfl, _, rfl, ite2 (fun c1 => ?_) (fun c1 => ?_)⟩
    · have hi1 : i < l.length := by
        have := of_decide_eq_true c1
        rw [nv_len] at this
        omega
      obtain ⟨x0, hx0⟩ : ∃ x, l[i]? = some x := ⟨_, List.getElem?_eq_getElem hi1⟩
      have hd0 : (l.drop i)[0]? = some x0 := by rw [List.getElem?_drop]; exact hx0
      have dl : (l.drop i).length = l.length - i := List.length_drop
      have rp : 1 ≤ Ie11.runLength (l.drop i) ∧ Ie11.runLength (l.drop i) ≤ (l.drop i).length := by
        refine ⟨?_, runLength_le _⟩
        cases hd : l.drop i with
        | nil => rw [hd] at hd0; cases hd0
        | cons y t => exact runLength_pos y t
      -- what a turn brings
      refine ⟨fun σ' H2 => Same H H2 ∧ ∃ (i2 : Nat) (told2 : NL) (c2 : Option V), σ' = [some (.ref a), some (.ref o), some (.int (i2 : Int)), c2] ∧ i < i2 ∧ i2 ≤ l.length ∧ H2 o = some (.lst (nv told2)) ∧ told2 ++ Ie11.shortOf (l.drop i2) = Ie11.shortOf l, ?_, ?_⟩
      · rintro σ' H2 ⟨sm2, i2, told2, c2, rfl, h1, h2, h3, h4⟩
        exact ⟨l.length - i2, by omega, sm2, i2, told2, c2, rfl, h2, h3, h4, rfl⟩
      · refine ⟨_, rfl, _, rfl, a, l, i, rfl, hL, hi1, ?_⟩
        generalize hn : min 130 (Ie11.runLength (l.drop i)) = n
        refine ⟨_, rfl, _, _, rfl, rfl, _, rfl, ite2 (fun c2 => ?_) (fun c2 => ?_)⟩
        · have h3 : 3 ≤ n := by
            have := of_decide_eq_true c2
            omega
          have se := shortOf_run hd0 hn.symm h3
          refine ⟨_, rfl, .inl ⟨rfl, _, SqL.of ho⟩, _, rfl, _, _, rfl, rfl, o, _, _, rfl, rfl, ho, smalls (by rw [nv_len]; omega), ?_⟩
          have ho1 : (upd H' o (.lst (nv told ++ [.int ((125 : Int) + (n : Int))]))) o = some (.lst (nv told ++ [.int ((125 : Int) + (n : Int))])) := upd_same
          refine ⟨_, rfl, .inl ⟨rfl, _, SqL.of ho1⟩, _, rfl, _, rfl, a, nv l, _, _, rfl, rfl, SqL.of (by rw [upd_ne nao]; exact hL), nv_at hx0, o, _, _, rfl, rfl, ho1, smalls (by rw [List.length_append, nv_len]; simp; omega), ?_⟩
          refine ⟨_, rfl, _, rfl, _, _, rfl, rfl, same_set (same_set sm no) no, i + n, told ++ [125 + n, x0], _, rfl, by omega, by omega, ?_, ?_⟩
          · rw [upd_same, nv_app]
            simp only [List.append_assoc]
            rfl
          · rw [← he, se, List.drop_drop]
            simp
        · have h3 : n < 3 := by
            by_cases z : 3 ≤ n
            · exact absurd (decide_eq_true (by omega)) c2
            · omega
          have hne : l.drop i ≠ [] := fun z => by rw [z] at hd0; cases hd0
          refine ⟨_, rfl, _, rfl, a, l, i, rfl, hL, hi1, by omega, ?_⟩
          have pl := plain_le (l.drop i).length (l.drop i)
          have pp : 1 ≤ Ie11.plainLength (l.drop i).length (l.drop i) := by
            cases hd : l.drop i with
            | nil => exact absurd hd hne
            | cons y t => exact plain_pos (by rw [← hd]; omega)
          generalize hm : min 128 (Ie11.plainLength (l.drop i).length (l.drop i)) = k
          have se := shortOf_plain hne (by omega) hm.symm
          refine ⟨_, rfl, .inl ⟨rfl, _, SqL.of ho⟩, _, rfl, _, _, rfl, rfl, o, _, _, rfl, rfl, ho, smalls (by rw [nv_len]; omega), ?_⟩
          have ho1 : (upd H' o (.lst (nv told ++ [.int ((k : Int) - 1)]))) o = some (.lst (nv told ++ [.int ((k : Int) - 1)])) := upd_same
          refine ⟨_, rfl, .inl ⟨rfl, _, SqL.of ho1⟩, _, rfl, _, rfl, _, rfl, _, rfl, _, rfl, _, _, rfl, rfl, _, rfl, a, nv l, rfl, SqL.of (by rw [upd_ne nao]; exact hL), fun b nb => ?_⟩
          have nbo : o ≠ b := ne_of_none ho1 nb
          have ec : cutV (nv l) (some (i : Int)) (some ((i : Int) + (k : Int))) = nv ((l.drop i).take k) := by
            rw [show (i : Int) + (k : Int) = ((i + k : Nat) : Int) from rfl, cut_nv]
            congr 2
            omega
          refine ⟨o, b, nv told ++ [.int ((k : Int) - 1)], _, rfl, rfl, by rw [upd_ne nbo]; exact ho1, upd_same, small (by rw [ec, List.length_append, nv_len, nv_len, List.length_take]; simp; omega), ?_⟩
          refine ⟨_, rfl, _, rfl, _, _, rfl, rfl, ?_, i + k, told ++ (k - 1) :: (l.drop i).take k, _, rfl, by omega, by omega, ?_, ?_⟩
          · refine same_set (Same.trans ?_ (same_upd nb)) no
            exact same_set sm no
          · rw [upd_same, nv_app, nv_cons, ec, show (k : Int) - 1 = ((k - 1 : Nat) : Int) by omega]
            simp only [List.append_assoc]
            rfl
          · rw [← he, se, List.drop_drop]
            simp
    · have hi1 : i = l.length := by
        by_cases z : i < l.length
        · exact absurd (decide_eq_true (by rw [nv_len]; omega)) c1
        · omega
      subst hi1
      rw [List.drop_of_length_le (Nat.le_refl _), shortOf_nil, List.append_nil] at he
      subst he
      exact ⟨_, rfl, q H' o sm no ho⟩
/-! ### read_stretch -/
theorem stretch_len {b : NL} {s : NL × NL} (hb : B8 b) (h : stretch b = some s) : s.1.length ≤ 130 := by
  unfold stretch at h
  split at h
  · rename_i c x t
    have hc : c ≤ 255 := hb c (List.mem_cons_self ..)
    split at h
    · have hm : c - 125 ≤ 130 := by omega
      generalize c - 125 = m at h hm
      have e := Option.some.inj h
      rw [← e]
      simp only [List.length_replicate]
      exact hm
    · split at h
      · simp at h
      · have e := Option.some.inj h
        rw [← e]
        simp only [List.length_take]
        omega
  · simp at h
theorem flat_rep {v : V} : ∀ n : Nat, (List.replicate n [v]).flatten = List.replicate n v
  | 0 => rfl
  | n + 1 => by rw [List.replicate_succ, List.flatten_cons, flat_rep n]; rfl
/-- read_stretch: slots 0 some_bytes 1 at 2 first 3 behind -/
abbrev s_read_stretch : Stmt := top 34
abbrev N_read_stretch : List Str := ["some_bytes", "at", "first", "behind"]
theorem sc_read_stretch : FnScope N_read_stretch ["some_bytes", "at"] (defScope s_read_stretch) := ⟨rfl, rfl, rfl, by decide +kernel, rfl, by decide +kernel, by decide +kernel⟩
def spStretch : Sp := fun vs H Q _ => ∃ (a : Addr) (b : NL) (i : Nat), vs = [.ref a, .int (i : Int)] ∧ H a = some (.lst (nv b)) ∧ b.length ≤ 3000 ∧ B8 b ∧
  (stretch (b.drop i) = none → Q .non H) ∧
  ∀ s, stretch (b.drop i) = some s → ∀ (H' : Hp) (p c : Addr) (n : Nat), Same H H' → H p = none → H c = none → H' p = some (.tup [.ref c, .int (n : Int)]) → H' c = some (.lst (nv s.1)) → s.2 = b.drop n → i < n → n ≤ b.length → Q (.ref p) H'
theorem ok_read_stretch {f : Addr} {fd : FuncData} (T : Txt K mg) (F : Fun K "read_stretch" "read_stretch" s_read_stretch f fd) : FnOk P w K mg base CX0 1 f fd ["some_bytes", "at"] spStretch := by
  refine F.ok sc_read_stretch (fun vs H Q E h => ?_) (fun cdv A outer s H vs Q E hr h => ?_)
  · obtain ⟨a, b, i, rfl, _⟩ := h
    rfl
  · obtain ⟨a, b, i, rfl, ha, hlen, hb, q0, q1⟩ := h
    refine ⟨_, (pss_cons (ps_if (pt_cmpR op_ge (pe_op op_add (pv 1) pe_int) (pe_callB call_len_seq (by rfl) T.b_len PySem.boot_len (pa_cons (pv 0) pa_nil)) (nomark _))
      (pss_one (ps_ret pe_non))
      pss_nil)
      (pss_cons (ps_set (i := 2) sc_read_stretch.nd rfl (Or.inl rfl) (pe_ix ix_list (pv 0) (pv 1) (fun _ _ => rfl)))
      (pss_cons (ps_if (pt_cmpR op_ge (pv 2) (pe_k T.c_FIRST_ALIKE) (nomark _))
      (pss_one (ps_ret (pe_tup (pa_cons (pe_op op_rep (pe_lst (pa_cons (pe_ix ix_list (pv 0) (pe_op op_add (pv 1) pe_int) (fun _ _ => rfl)) pa_nil)) (pe_op op_sub (pv 2) (pe_k T.c_ALIKE_MORE))) (pa_cons (pe_op op_add (pv 1) pe_int) pa_nil)))))
      pss_nil)
      (pss_cons (ps_set (i := 3) sc_read_stretch.nd rfl (Or.inl rfl) (pe_op op_add (pe_op op_add (pe_op op_add (pv 1) pe_int) (pv 2)) pe_int))
      (pss_cons (ps_if (pt_cmpR op_gt (pv 3) (pe_callB call_len_seq (by rfl) T.b_len PySem.boot_len (pa_cons (pv 0) pa_nil)) (nomark _))
      (pss_one (ps_ret pe_non))
      pss_nil)
      (pss_one (ps_ret (pe_tup (pa_cons (pe_slice sl_list (pv 0) (po_some (pe_op op_add (pv 1) pe_int)) (po_some (pv 3))) (pa_cons (pv 3) pa_nil)))))))))), ?_⟩
    have hS : SqL K H a (nv b) := SqL.of ha
    refine ⟨_, rfl, _, _, rfl, rfl, _, rfl, a, nv b, rfl, .inl hS, _, _, rfl, rfl, _, rfl, ite2 (fun c => ?_) (fun c => ?_)⟩
    · -- fewer than two
      refine q0 ?_
      have h1 : (b.drop i).length ≤ 1 := by
        have := of_decide_eq_true c
        rw [nv_len] at this
        rw [List.length_drop]
        omega
      match b.drop i, h1 with
      | [], _ => rfl
      | [_], _ => rfl
    · have hi : i + 1 < b.length := by
        by_cases z : i + 1 < b.length
        · exact z
        · exact absurd (decide_eq_true (by rw [nv_len]; omega)) c
      obtain ⟨x, hx⟩ : ∃ x, b[i]? = some x := ⟨_, List.getElem?_eq_getElem (by omega)⟩
      obtain ⟨y, hy⟩ : ∃ y, b[i + 1]? = some y := ⟨_, List.getElem?_eq_getElem hi⟩
      have hxb : x ≤ 255 := hb x (List.mem_of_getElem? hx)
      have ed : b.drop i = x :: y :: b.drop (i + 2) := by
        rw [List.drop_eq_getElem_cons (by omega : i < b.length), List.drop_eq_getElem_cons hi]
        rw [List.getElem?_eq_getElem (by omega)] at hx
        rw [List.getElem?_eq_getElem hi] at hy
        rw [Option.some.inj hx, Option.some.inj hy]
      refine ⟨_, rfl, _, rfl, a, nv b, _, _, rfl, rfl, hS, nv_at hx, ?_⟩
      refine ⟨_, rfl, _, _, rfl, rfl, _, rfl, ite2 (fun c2 => ?_) (fun c2 => ?_)⟩
      · have hx8 : 128 ≤ x := by
          have := of_decide_eq_true c2
          omega
        have es : stretch (b.drop i) = some (List.replicate (x - 125) y, b.drop (i + 2)) := by
          rw [ed, stretch, if_pos hx8]
        refine ⟨_, rfl, _, rfl, _, _, rfl, rfl, a, nv b, _, _, rfl, rfl, hS, nv_at (i := i + 1) hy, (by show 1 ≤ sizeLine; decide), fun o no => ?_⟩
        refine ⟨_, rfl, _, _, rfl, rfl, o, _, _, rfl, rfl, upd_same, by omega, by omega, small (by simp only [List.length_singleton]; omega), fun r nr => ?_⟩
        refine ⟨_, rfl, _, _, rfl, rfl, (by show 2 ≤ sizeLine; decide), fun p np => ?_⟩
        have nrp : r ≠ p := ne_of_none upd_same np
        have s1 : Same H (upd H o (.lst [.int (y : Int)])) := same_upd no
        have s2 := Same.trans s1 (same_upd (o := .lst (List.replicate ((x : Int) - 125).toNat [V.int (y : Int)]).flatten) nr)
        refine q1 _ es _ p r (i + 2) (Same.trans s2 (same_upd np)) (s2.free np) (s1.free nr) upd_same ?_ rfl (by omega) (by omega)
        rw [upd_ne nrp, upd_same, flat_rep]
        show _ = some (HO.lst (nv (List.replicate (x - 125) y)))
        rw [nv_rep, show ((x : Int) - 125).toNat = x - 125 by omega]
      · have hx8 : ¬ 128 ≤ x := fun z => c2 (decide_eq_true (by omega))
        refine ⟨_, rfl, _, _, rfl, rfl, _, rfl, _, _, rfl, rfl, _, _, rfl, rfl, ?_⟩
        refine ⟨_, rfl, _, rfl, a, nv b, rfl, .inl hS, _, _, rfl, rfl, _, rfl, ite2 (fun c3 => ?_) (fun c3 => ?_)⟩
        · refine q0 ?_
          have := of_decide_eq_true c3
          rw [nv_len] at this
          rw [ed, stretch, if_neg hx8, if_pos (by rw [List.length_drop]; omega)]
        · have h3 : i + 2 + x ≤ b.length := by
            by_cases z : i + 2 + x ≤ b.length
            · exact z
            · exact absurd (decide_eq_true (by rw [nv_len]; omega)) c3
          have es : stretch (b.drop i) = some ((y :: b.drop (i + 2)).take (x + 1), (y :: b.drop (i + 2)).drop (x + 1)) := by
            rw [ed, stretch, if_neg hx8, if_neg (by rw [List.length_drop]; omega)]
          have e1 : y :: b.drop (i + 2) = b.drop (i + 1) := by
            rw [List.drop_eq_getElem_cons hi]
            rw [List.getElem?_eq_getElem hi] at hy
            rw [Option.some.inj hy]
          refine ⟨_, rfl, _, rfl, _, _, rfl, rfl, _, rfl, _, rfl, _, rfl, a, nv b, rfl, hS, fun r nr => ?_⟩
          refine ⟨_, rfl, (by show 2 ≤ sizeLine; decide), fun p np => ?_⟩
          have nrp : r ≠ p := ne_of_none upd_same np
          have s1 : Same H (upd H r (.lst (cutV (nv b) (some ((i : Int) + 1)) (some ((i : Int) + 1 + (x : Int) + 1))))) := same_upd nr
          refine q1 _ es _ p r (i + 2 + x) (Same.trans s1 (same_upd np)) (s1.free np) nr ?_ ?_ ?_ (by omega) h3
          · rw [upd_same]
            show some (HO.tup [V.ref r, V.int ((i : Int) + 1 + (x : Int) + 1)]) = _
            rw [show (i : Int) + 1 + (x : Int) + 1 = ((i + 2 + x : Nat) : Int) by omega]
          · rw [upd_ne nrp, upd_same, show (i : Int) + 1 = ((i + 1 : Nat) : Int) from rfl, show ((i + 1 : Nat) : Int) + (x : Int) + 1 = ((i + 2 + x : Nat) : Int) by omega, cut_nv]
            simp only []
            rw [e1, show i + 2 + x - (i + 1) = x + 1 by omega]
          · simp only []
            rw [e1, List.drop_drop]
            congr 1
            omega
/-! ### read_short -/
/-- read_short: slots 0 some_bytes 1 at 2 wanted 3 numbers 4 stretch -/
abbrev s_read_short : Stmt := top 35
abbrev N_read_short : List Str := ["some_bytes", "at", "wanted", "numbers", "stretch"]
theorem sc_read_short : FnScope N_read_short ["some_bytes", "at", "wanted"] (defScope s_read_short) := ⟨rfl, rfl, rfl, by decide +kernel, rfl, by decide +kernel, by decide +kernel⟩
def spReadShort : Sp := fun vs H Q _ => ∃ (a : Addr) (b : NL) (i n : Nat), vs = [.ref a, .int (i : Int), .int (n : Int)] ∧ H a = some (.lst (nv b)) ∧ b.length ≤ 3000 ∧ B8 b ∧ i ≤ b.length ∧ n ≤ 3000 ∧
  (Ie11.long n n (b.drop i) = none → ∀ H', Same H H' → Q .non H') ∧
  ∀ s, Ie11.long n n (b.drop i) = some s → ∀ (H' : Hp) (p c : Addr) (j : Nat), Same H H' → H p = none → H c = none → H' p = some (.tup [.ref c, .int (j : Int)]) → H' c = some (.lst (nv s.1)) → s.2 = b.drop j → i ≤ j → j ≤ b.length → Q (.ref p) H'
theorem ok_read_short {f : Addr} {fd : FuncData} (T : Txt K mg) (C_read_stretch : Callee P w K mg base 1 "read_stretch" ["some_bytes", "at"] spStretch) (F : Fun K "read_short" "read_short" s_read_short f fd) : FnOk P w K mg base CX0 2 f fd ["some_bytes", "at", "wanted"] spReadShort := by
  refine F.ok sc_read_short (fun vs H Q E h => ?_) (fun cdv A outer s H vs Q E hr h => ?_)
  · obtain ⟨a, b, i, n, rfl, _⟩ := h
    rfl
  · obtain ⟨a, b, i, n, rfl, ha, hlen, hb, hi, hn, q0, q1⟩ := h
    refine ⟨_, (pss_cons (ps_set (i := 3) sc_read_short.nd rfl (Or.inl rfl) (pe_lst pa_nil))
      (pss_cons (ps_while PassesOwn.never (pt_cmpR op_lt (pe_callB call_len_seq (by rfl) T.b_len PySem.boot_len (pa_cons (pv 3) pa_nil)) (pv 2) (nomark _))
      (pss_cons (ps_set (i := 4) sc_read_short.nd rfl (Or.inl rfl) (pe_cc C_read_stretch (hr.mono (by decide)) (pa_cons (pv 0) (pa_cons (pv 1) pa_nil))))
      (pss_cons (ps_if (pt_cmpR op_isN (pv 4) pe_non (nomark _))
      (pss_one (ps_ret pe_non))
      pss_nil)
      (pss_cons (ps_expr (pe_bm PySem.F.plainAttrs_list PySem.F.slot_list_extend PySem.F.type_list_extend mt_extend (pv 3) (pa_cons (pe_ix ix_tup (pv 4) pe_int (fun _ _ => rfl)) pa_nil)))
      (pss_one (ps_set (i := 1) sc_read_short.nd rfl (Or.inl rfl) (pe_ix ix_tup (pv 4) pe_int (fun _ _ => rfl))))))))
      (pss_cons (ps_if (pt_cmpR op_gt (pe_callB call_len_seq (by rfl) T.b_len PySem.boot_len (pa_cons (pv 3) pa_nil)) (pv 2) (nomark _))
      (pss_one (ps_ret pe_non))
      pss_nil)
      (pss_one (ps_ret (pe_tup (pa_cons (pv 3) (pa_cons (pv 1) pa_nil)))))))), ?_⟩
    refine ⟨Nat.zero_le _, fun o no => ?_⟩
    refine ⟨fun m σ H' => Same H H' ∧ ∃ (j : Nat) (acc : NL) (c : Option V), σ = [some (.ref a), some (.int (j : Int)), some (.int (n : Int)), some (.ref o), c] ∧ i ≤ j ∧ j ≤ b.length ∧ H' o = some (.lst (nv acc)) ∧ acc.length ≤ n + 130 ∧ Reads n (b.drop i) acc (b.drop j) ∧ m = b.length - j,
      ⟨_, same_upd no, i, [], none, rfl, Nat.le_refl _, hi, upd_same, Nat.zero_le _, Reads.start n _, rfl⟩, ?_⟩
    rintro m σ H' ⟨sm, j, acc, c, rfl, hij, hj, ho, hal, R, rfl⟩
    have hL : H' a = some (.lst (nv b)) := sm _ _ ha
    have nao : a ≠ o := ne_of_none ha no
    refine ⟨_, rfl, o, nv acc, rfl, .inl (SqL.of ho), _, rfl, _, _, rfl, rfl, _, rfl, ite2 (fun c1 => ?_) (fun c1 => ?_)⟩
    · have ha1 : acc.length < n := by
        have := of_decide_eq_true c1
        rw [nv_len] at this
        omega
      refine ⟨fun σ' H2 => Same H H2 ∧ ∃ (j2 : Nat) (acc2 : NL) (c2 : Option V), σ' = [some (.ref a), some (.int (j2 : Int)), some (.int (n : Int)), some (.ref o), c2] ∧ j < j2 ∧ j2 ≤ b.length ∧ H2 o = some (.lst (nv acc2)) ∧ acc2.length ≤ n + 130 ∧ Reads n (b.drop i) acc2 (b.drop j2), ?_, ?_⟩
      · rintro σ' H2 ⟨sm2, j2, acc2, c2, rfl, h1, h2, h3, h4, h5⟩
        exact ⟨b.length - j2, by omega, sm2, j2, acc2, c2, rfl, by omega, h2, h3, h4, h5, rfl⟩
      · refine ⟨_, rfl, _, rfl, a, b, j, rfl, hL, hlen, hb, fun e => ?_, fun s e H2 p r j2 s2 np nr hp hr2 es h1 h2 => ?_⟩
        · refine ⟨_, rfl, rfl, _, rfl, iteT ?_⟩
          exact q0 (R.no ha1 e) H' sm
        · have nor : o ≠ r := ne_of_none ho nr
          have nop : o ≠ p := ne_of_none ho np
          have ho2 := s2 _ _ ho
          have hb2 : B8 (b.drop j) := fun x hx => hb x (List.mem_of_mem_drop hx)
          have sl := stretch_len hb2 e
          refine ⟨_, rfl, rfl, _, rfl, iteF ?_⟩
          refine ⟨_, rfl, .inl ⟨rfl, _, SqL.of ho2⟩, _, rfl, p, _, _, _, rfl, rfl, SqT.of hp, atI_nat (j := 0) rfl, o, r, _, _, rfl, rfl, ho2, hr2, small (by rw [nv_len, nv_len]; omega), ?_⟩
          have hp2 : (upd H2 o (.lst (nv acc ++ nv s.1))) p = some (.tup [.ref r, .int (j2 : Int)]) := by
            rw [upd_ne nop.symm]
            exact hp
          refine ⟨_, rfl, p, _, _, _, rfl, rfl, SqT.of hp2, atI_nat (j := 1) rfl, same_set (Same.trans sm s2) no, j2, acc ++ s.1, _, rfl, h1, h2, ?_, ?_, ?_⟩
          · rw [upd_same, nv_app]
          · rw [List.length_append]
            omega
          · rw [← es]
            exact R.step ha1 e
    · have ha1 : n ≤ acc.length := by
        by_cases z : acc.length < n
        · exact absurd (decide_eq_true (by rw [nv_len]; omega)) c1
        · omega
      refine ⟨_, rfl, o, nv acc, rfl, .inl (SqL.of ho), _, rfl, _, _, rfl, rfl, _, rfl, ite2 (fun c2 => ?_) (fun c2 => ?_)⟩
      · have := of_decide_eq_true c2
        rw [nv_len] at this
        exact q0 (R.over (by omega)) H' sm
      · have hal2 : acc.length = n := by
          by_cases z : n < acc.length
          · exact absurd (decide_eq_true (by rw [nv_len]; omega)) c2
          · omega
        refine ⟨_, rfl, _, rfl, (by show 2 ≤ sizeLine; decide), fun p np => ?_⟩
        have nop : o ≠ p := ne_of_none ho np
        exact q1 _ (R.done hal2) _ p o j (Same.trans sm (same_upd np)) (sm.free np) no upd_same (by rw [upd_ne nop]; exact ho) rfl hij hj
/-! ### whole_short -/
/-- whole_short: slots 0 some_bytes 1 wanted 2 short -/
abbrev s_whole_short : Stmt := top 36
abbrev N_whole_short : List Str := ["some_bytes", "wanted", "short"]
theorem sc_whole_short : FnScope N_whole_short ["some_bytes", "wanted"] (defScope s_whole_short) := ⟨rfl, rfl, rfl, by decide +kernel, rfl, by decide +kernel, by decide +kernel⟩
def spWholeShort : Sp := fun vs H Q _ => ∃ (a : Addr) (b : NL) (n : Nat), vs = [.ref a, .int (n : Int)] ∧ H a = some (.lst (nv b)) ∧ b.length ≤ 3000 ∧ B8 b ∧ n ≤ 3000 ∧
  ((∀ s, Ie11.long n n b = some s → s.2 ≠ []) → ∀ H', Same H H' → Q .non H') ∧
  ∀ s, Ie11.long n n b = some s → s.2 = [] → ∀ (H' : Hp) (c : Addr), Same H H' → H c = none → H' c = some (.lst (nv s.1)) → Q (.ref c) H'
theorem ok_whole_short {f : Addr} {fd : FuncData} (T : Txt K mg) (C_read_short : Callee P w K mg base 2 "read_short" ["some_bytes", "at", "wanted"] spReadShort) (F : Fun K "whole_short" "whole_short" s_whole_short f fd) : FnOk P w K mg base CX0 3 f fd ["some_bytes", "wanted"] spWholeShort := by
  refine F.ok sc_whole_short (fun vs H Q E h => ?_) (fun cdv A outer s H vs Q E hr h => ?_)
  · obtain ⟨a, b, n, rfl, _⟩ := h
    rfl
  · obtain ⟨a, b, n, rfl, ha, hlen, hb, hn, q0, q1⟩ := h
    refine ⟨_, (pss_cons (ps_set (i := 2) sc_whole_short.nd rfl (Or.inl rfl) (pe_cc C_read_short (hr.mono (by decide)) (pa_cons (pv 0) (pa_cons pe_int (pa_cons (pv 1) pa_nil)))))
      (pss_cons (ps_if (PW.pt (pw_or (pt_cmpR op_isN (pv 2) pe_non (nomark _)) (pw_or1 (pt_cmpR op_ne (pe_ix ix_tup (pv 2) pe_int (fun _ _ => rfl)) (pe_callB call_len_seq (by rfl) T.b_len PySem.boot_len (pa_cons (pv 0) pa_nil)) (nomark _)))))
      (pss_one (ps_ret pe_non))
      pss_nil)
      (pss_one (ps_ret (pe_ix ix_tup (pv 2) pe_int (fun _ _ => rfl)))))), ?_⟩
    refine ⟨_, rfl, _, rfl, a, b, 0, n, rfl, ha, hlen, hb, Nat.zero_le _, hn, fun e H1 s1 => ?_, fun s e H1 p c j s1 np nc hp hc es h1 h2 => ?_⟩
    · refine ⟨_, rfl, rfl, _, rfl, iteT ?_⟩
      rw [List.drop_zero] at e
      exact q0 (fun s z => by rw [e] at z; cases z) H1 s1
    · rw [List.drop_zero] at e
      refine ⟨_, rfl, rfl, _, rfl, iteF ?_⟩
      refine ⟨_, rfl, p, _, _, _, rfl, rfl, SqT.of hp, atI_nat (j := 1) rfl, _, rfl, a, nv b, rfl, .inl (SqL.of (s1 _ _ ha)), rfl, _, rfl, ?_⟩
      by_cases cj : j = b.length
      · have e1 : (!decide (V.int (j : Int) = V.int ((nv b).length : Int))) = false := by
          rw [nv_len, cj]
          simp
        rw [e1]
        refine iteF ?_
        refine ⟨_, rfl, p, _, _, _, rfl, rfl, SqT.of hp, atI_nat (j := 0) rfl, ?_⟩
        exact q1 s e (by rw [es, cj, List.drop_length]) H1 c s1 nc hc
      · have e1 : (!decide (V.int (j : Int) = V.int ((nv b).length : Int))) = true := by
          have : ¬ V.int (j : Int) = V.int (b.length : Int) := fun z => cj (by have := V.int.inj z; omega)
          rw [nv_len]
          simp [this]
        rw [e1]
        refine iteT ?_
        refine q0 (fun s' z hz => cj ?_) H1 s1
        have : s = s' := Option.some.inj (e.symm.trans z)
        rw [← this, es] at hz
        have := congrArg List.length hz
        rw [List.length_drop] at this
        simp at this
        omega
end
end Pf
end
section
set_option Elab.async false
set_option linter.all false
set_option maxRecDepth 100000
set_option maxHeartbeats 4000000
namespace Pf
open PySem PySem.Spec PyProof.Rows L2
/-! ### a comprehension over zip -/
theorem lc_zip {K : PySem.W.Frag} {a b : Addr} {xs ys : List V} {g : TG} {tt : TT} {te : TE} {vs : List Nat} {σ : L2.St} {H1 : Hp} {D : Addr} {Qd : Hp → Prop} (Pv : Nat → Hp → Prop) (h0 : Pv 0 (upd H1 D (.lst []))) (hq : ∀ i H, Pv i H → SqL K H a xs ∧ SqL K H b ys)
    (hs : ∀ i x y T H, xs[i]? = some x → ys[i]? = some y → Pv i H → H T = none → g (.ref T) (wipe σ vs) (upd H T (.tup [x, y])) fun σ2 H2 => wipe σ2 vs = wipe σ vs ∧ tt σ2 H2 fun b H3 =>
      if b = true then te σ2 H3 fun y H4 => ∃ acc, H4 D = some (.lst acc) ∧ acc.length < sizeLine ∧ Pv (i + 1) (upd H4 D (.lst (acc ++ [y]))) else Pv (i + 1) H3) (hd : ∀ H, Pv (min xs.length ys.length) H → Qd H) :
    ∃ W : Nat → Nat → Hp → Prop, (∃ m, W 0 m (upd H1 D (.lst []))) ∧ ∀ i m H, W i m H →
      ((Itz K a b).stop i H ∧ Qd H) ∨ ((Itz K a b).go i H ∧ ∃ Nx : Hp → Prop, (∀ H', Nx H' → ∃ m', m' < m ∧ W (i + 1) m' H') ∧ ∀ x H', (Itz K a b).yld i H x H' → g x (wipe σ vs) H' fun σ2 H2 => wipe σ2 vs = wipe σ vs ∧ tt σ2 H2 fun b H3 =>
        if b = true then te σ2 H3 fun y H4 => ∃ acc, H4 D = some (.lst acc) ∧ acc.length < sizeLine ∧ Nx (upd H4 D (.lst (acc ++ [y]))) else Nx H3) := by
  refine ⟨fun i m H => m = min xs.length ys.length - i ∧ i ≤ min xs.length ys.length ∧ Pv i H, ⟨_, rfl, Nat.zero_le _, h0⟩, ?_⟩
  rintro i m H ⟨rfl, hi, p⟩
  obtain ⟨qa, qb⟩ := hq i H p
  by_cases hlt : i < min xs.length ys.length
  · obtain ⟨x, hx⟩ : ∃ x, xs[i]? = some x := ⟨_, List.getElem?_eq_getElem (by omega)⟩
    obtain ⟨y, hy⟩ : ∃ y, ys[i]? = some y := ⟨_, List.getElem?_eq_getElem (by omega)⟩
    refine .inr ⟨⟨xs, ys, x, y, qa, qb, hx, hy⟩, Pv (i + 1), fun H' p' => ⟨min xs.length ys.length - (i + 1), by omega, rfl, by omega, p'⟩, fun v H' hv => ?_⟩
    obtain ⟨T, x', y', rfl, nT, rfl, f1, f2⟩ := hv
    exact hs i x' y' T H (f1 _ qa) (f2 _ qb) p nT
  · have e : i = min xs.length ys.length := by omega
    subst e
    exact .inl ⟨⟨xs, ys, qa, qb, by omega⟩, hd _ p⟩
theorem yes_of {σ : L2.St} {H : Hp} {A B : Hp → Prop} (h : A H) : tYes σ H (fun b H3 => if b = true then A H3 else B H3) := by
  show (if true = true then A H else B H)
  rw [if_pos rfl]
  exact h
theorem nv_snoc {l : NL} {i x : Nat} (h : l[i]? = some x) : nv (l.take (i + 1)) = nv (l.take i) ++ [.int (x : Int)] := by
  rw [take_snoc h, nv_app]
  rfl
section
variable {P : Program} {w : World} {K : PySem.W.Frag} {mg : Str → Option Value} {base : Heap}
/-! ### less -/
/-- less: slots 0 row 1 others 2 x 3 y -/
abbrev s_less : Stmt := top 41
abbrev N_less : List Str := ["row", "others", "x", "y"]
theorem sc_less : FnScope N_less ["row", "others"] (defScope s_less) := ⟨rfl, rfl, rfl, by decide +kernel, rfl, by decide +kernel, by decide +kernel⟩
def spLess : Sp := fun vs H Q _ => ∃ (a b : Addr) (row ys r : NL), vs = [.ref a, .ref b] ∧ H a = some (.lst (nv row)) ∧ H b = some (.lst (nv ys)) ∧ row.length ≤ ys.length ∧ row.length ≤ 3000 ∧ r.length = row.length ∧ B8 ys ∧
  (∀ (i x y : Nat), row[i]? = some x → ys[i]? = some y → r[i]? = some ((x + 256 - y) % 256)) ∧
  ∀ H' p, Same H H' → H p = none → H' p = some (.lst (nv r)) → Q (.ref p) H'
theorem ok_less {f : Addr} {fd : FuncData} (T : Txt K mg) (F : Fun K "less" "less" s_less f fd) : FnOk P w K mg base CX0 1 f fd ["row", "others"] spLess := by
  refine F.ok sc_less (fun vs H Q E h => ?_) (fun cdv A outer s H vs Q E hr h => ?_)
  · obtain ⟨a, b, row, ys, r, rfl, _⟩ := h
    rfl
  · obtain ⟨a, b, row, ys, r, rfl, ha, hb, hle, hlen, hr3, h8, hf, q⟩ := h
    refine ⟨_, (pss_one (ps_ret (pe_lc (own := [("x", 2), ("y", 3)]) (g := (gTup K 2 (gCons (gName 2) (gCons (gName 3) gNil)))) (tt := tYes) (by rfl) sc_less.nd (pi_zip (by rfl) T.b_zip (pa_cons (pv 0) (pa_cons (pv 1) pa_nil))) (blkOk_by (N := N_less) (sc := defScope s_less) (by decide +kernel)) (fun _ _ _ _ _ => (pg_tup rfl (pgs_cons (pg_name (i := 2) sc_less.nd rfl (Or.inl rfl)) (pgs_cons (pg_name (i := 3) sc_less.nd rfl (Or.inl rfl)) pgs_nil)))) (fun _ _ _ _ _ => pts_nil) (fun _ _ _ _ _ => (pe_op op_mod (pe_op op_sub (pv 2) (pv 3)) (pe_k T.c_BYTE_VALUES)))))), ?_⟩
    refine ⟨_, rfl, _, rfl, a, b, nv row, nv ys, rfl, SqL.of ha, SqL.of hb, fun D nD => ?_⟩
    refine lc_zip (K := K) (a := a) (b := b) (xs := nv row) (ys := nv ys) (fun i H' => Same H H' ∧ H' D = some (.lst (nv (r.take i)))) ⟨same_upd nD, upd_same⟩ (fun i H' ⟨s1, _⟩ => ⟨SqL.of (s1 _ _ ha), SqL.of (s1 _ _ hb)⟩) ?_ ?_
    · rintro i vx vy T H' hvx hvy ⟨s1, hD⟩ nT
      obtain ⟨x, hx, rfl⟩ := nv_of hvx
      obtain ⟨y, hy, rfl⟩ := nv_of hvy
      have hrr := hf i x y hx hy
      have hy8 := h8 y (List.mem_of_getElem? hy)
      have nDT : D ≠ T := ne_of_none hD nT
      refine ⟨T, _, rfl, SqT.of upd_same, rfl, _, _, rfl, _, _, rfl, rfl, rfl, yes_of ?_⟩
      have hi : i < row.length := (List.getElem?_eq_some_iff.mp hx).1
      refine ⟨_, rfl, _, rfl, _, _, rfl, rfl, _, _, rfl, rfl, (by show (0 : Int) < 256; decide), nv (r.take i), ?_, smalls (by rw [nv_len, List.length_take]; omega), ?_, ?_⟩
      · rw [upd_ne nDT]
        exact hD
      · exact same_set (Same.trans s1 (same_upd nT)) nD
      · rw [upd_same, nv_snoc hrr]
        show some (HO.lst (nv (r.take i) ++ [V.int (((x : Int) - (y : Int)) % 256)])) = _
        rw [show ((x : Int) - (y : Int)) % 256 = (((x + 256 - y) % 256 : Nat) : Int) by omega]
    · rintro H' ⟨s1, hD⟩
      rw [nv_len, nv_len, Nat.min_eq_left hle, ← hr3, List.take_length] at hD
      exact q H' D s1 nD hD
/-! ### written_row -/
/-- written_row: slots 0 row 1 above 2 best 3 way 4 others 5 told -/
abbrev s_written_row : Stmt := top 42
abbrev N_written_row : List Str := ["row", "above", "best", "way", "others", "told"]
theorem sc_written_row : FnScope N_written_row ["row", "above"] (defScope s_written_row) := ⟨rfl, rfl, rfl, by decide +kernel, rfl, by decide +kernel, by decide +kernel⟩
def bst (above row : NL) : Nat → NL
  | 0 => told 0 above row
  | 1 => if (told 1 above row).length < (told 0 above row).length then told 1 above row else told 0 above row
  | _ => bestOf above row
theorem bst_len (above row : NL) (i : Nat) : (bst above row i).length ≤ 2 * row.length + 1 := by
  have h0 := told_len 0 above row
  have h1 := told_len 1 above row
  match i with
  | 0 => exact h0
  | 1 =>
    show (if (told 1 above row).length < (told 0 above row).length then told 1 above row else told 0 above row).length ≤ _
    split <;> assumption
  | _ + 2 => show (bestOf above row).length ≤ _; rw [bestOf_eq]; exact rowOf_len above row
theorem bst_step (above row : NL) (i : Nat) (hi : i < 2) : bst above row (i + 1) = if (told (i + 1) above row).length < (bst above row i).length then told (i + 1) above row else bst above row i := by
  match i, hi with
  | 0, _ => rfl
  | 1, _ => rfl
def spWrittenRow : Sp := fun vs H Q _ => ∃ (a b : Addr) (row above : NL), vs = [.ref a, .ref b] ∧ H a = some (.lst (nv row)) ∧ H b = some (.lst (nv above)) ∧ row.length = above.length ∧ row.length ≤ 1000 ∧ B8 row ∧ B8 above ∧
  ∀ H' p, Same H H' → H p = none → H' p = some (.lst (nv (rowOf above row))) → Q (.ref p) H'
theorem ok_written_row {f : Addr} {fd : FuncData} (T : Txt K mg) (C_in_short : Callee P w K mg base 4 "in_short" ["numbers"] spInShort) (C_less : Callee P w K mg base 1 "less" ["row", "others"] spLess)
    (F : Fun K "written_row" "written_row" s_written_row f fd) : FnOk P w K mg base CX0 5 f fd ["row", "above"] spWrittenRow := by
  refine F.ok sc_written_row (fun vs H Q E h => ?_) (fun cdv A outer s H vs Q E hr h => ?_)
  · obtain ⟨a, b, row, above, rfl, _⟩ := h
    rfl
  · obtain ⟨a, b, row, above, rfl, ha, hb, hle, hlen, h8, h8b, q⟩ := h
    refine ⟨_, (pss_cons (ps_set (i := 2) sc_written_row.nd rfl (Or.inl rfl) (pe_op op_cat (pe_lst (pa_cons (pe_k T.c_AS_IT_IS) pa_nil)) (pe_cc C_in_short (hr.mono (by decide)) (pa_cons (pv 0) pa_nil))))
      (pss_cons (ps_for PassesOwn.never rfl (pi_tup (pe_tup (pa_cons (pe_tup (pa_cons (pe_k T.c_LESS_BEFORE) (pa_cons (pe_op op_cat (pe_lst (pa_cons pe_int pa_nil)) (pv 0)) pa_nil))) (pa_cons (pe_tup (pa_cons (pe_k T.c_LESS_ABOVE) (pa_cons (pv 1) pa_nil))) pa_nil)))) (pg_tup (by rfl) (pgs_cons (pg_name (i := 3) sc_written_row.nd rfl (Or.inl rfl)) (pgs_cons (pg_name (i := 4) sc_written_row.nd rfl (Or.inl rfl)) pgs_nil)))
      (pss_cons (ps_set (i := 5) sc_written_row.nd rfl (Or.inl rfl) (pe_op op_cat (pe_lst (pa_cons (pv 3) pa_nil)) (pe_cc C_in_short (hr.mono (by decide)) (pa_cons (pe_cc C_less (hr.mono (by decide)) (pa_cons (pv 0) (pa_cons (pv 4) pa_nil))) pa_nil))))
      (pss_one (ps_if (pt_cmpR op_lt (pe_callB call_len_seq (by rfl) T.b_len PySem.boot_len (pa_cons (pv 5) pa_nil)) (pe_callB call_len_seq (by rfl) T.b_len PySem.boot_len (pa_cons (pv 2) pa_nil)) (nomark _))
      (pss_one (ps_set (i := 2) sc_written_row.nd rfl (Or.inl rfl) (pv 5)))
      pss_nil))))
      (pss_one (ps_ret (pv 2))))), ?_⟩
    -- best = [0] + in_short(row)
    refine ⟨(by show 1 ≤ sizeLine; decide), fun z nz => ?_⟩
    have s1 : Same H (upd H z (.lst [.int 0])) := same_upd nz
    refine ⟨_, rfl, a, row, rfl, s1 _ _ ha, by omega, fun H2 p2 s2 np2 hp2 => ?_⟩
    have l0 := shortOf_len _ row (Nat.le_refl _)
    refine ⟨z, p2, _, _, rfl, rfl, s2 _ _ upd_same, hp2, small (by rw [nv_len]; simp; omega), fun o no => ?_⟩
    have s3 : Same H (upd H2 o (.lst ([.int 0] ++ nv (Ie11.shortOf row)))) := Same.trans (Same.trans s1 s2) (same_upd no)
    have no0 : H o = none := (Same.trans s1 s2).free no
    -- the pairs
    refine ⟨(by show 1 ≤ sizeLine; decide), fun z1 nz1 => ?_⟩
    have s4 := Same.trans s3 (same_upd (o := .lst [.int 0]) nz1)
    refine ⟨_, rfl, z1, a, _, _, rfl, rfl, upd_same, s4 _ _ ha, small (by rw [nv_len]; simp; omega), fun l1 nl1 => ?_⟩
    have s5 := Same.trans s4 (same_upd (o := .lst ([.int 0] ++ nv row)) nl1)
    refine ⟨(by show 2 ≤ sizeLine; decide), fun t1 nt1 => ?_⟩
    have s6 := Same.trans s5 (same_upd (o := .tup [.int 1, .ref l1]) nt1)
    refine ⟨_, rfl, (by show 2 ≤ sizeLine; decide), fun t2 nt2 => ?_⟩
    have s7 := Same.trans s6 (same_upd (o := .tup [.int 2, .ref b]) nt2)
    refine ⟨(by show 2 ≤ sizeLine; decide), fun tp ntp => ?_⟩
    have s8 := Same.trans s7 (same_upd (o := .tup [.ref t1, .ref t2]) ntp)
    generalize hHb : upd (upd (upd (upd (upd (upd H2 o (.lst ([.int 0] ++ nv (Ie11.shortOf row)))) z1 (.lst [.int 0])) l1 (.lst ([.int 0] ++ nv row))) t1 (.tup [.int 1, .ref l1])) t2 (.tup [.int 2, .ref b])) tp (.tup [.ref t1, .ref t2]) = Hb at s8
    have b1 : Hb t1 = some (.tup [.int 1, .ref l1]) := by
      rw [← hHb]
      exact same_upd ntp _ _ (same_upd nt2 _ _ upd_same)
    have b2 : Hb t2 = some (.tup [.int 2, .ref b]) := by
      rw [← hHb]
      exact same_upd ntp _ _ upd_same
    have bl : Hb l1 = some (.lst (nv (0 :: row))) := by
      rw [← hHb]
      exact same_upd ntp _ _ (same_upd nt2 _ _ (same_upd nt1 _ _ upd_same))
    have bo : Hb o = some (.lst (nv (told 0 above row))) := by
      rw [← hHb]
      exact same_upd ntp _ _ (same_upd nt2 _ _ (same_upd nt1 _ _ (same_upd nl1 _ _ (same_upd nz1 _ _ upd_same))))
    have bp : Hb tp = some (.tup [.ref t1, .ref t2]) := by
      rw [← hHb]
      exact upd_same
    refine ⟨tp, rfl, ⟨_, SqT.of bp⟩, for_tup (K := K) (a := tp) (xs := [.ref t1, .ref t2]) (fun i σ H' => Same Hb H' ∧ ∃ (pb : Addr) (v3 v4 v5 : Option V), σ = [some (.ref a), some (.ref b), some (.ref pb), v3, v4, v5] ∧ H pb = none ∧ H' pb = some (.lst (nv (bst above row i))))
      ⟨Same.refl _, o, none, none, none, rfl, no0, bo⟩ (fun i σ H' _ ⟨sb, _⟩ => SqT.of (sb _ _ bp)) ?_ ?_⟩
    · rintro i x σ H' hx ⟨sb, pb, v3, v4, v5, rfl, npb, hpb⟩
      -- the turn, of the way i + 1
      obtain ⟨t, lo, ys, hi2, ht, hlo, hly, hy8, hget, rfl⟩ : ∃ (t lo : Addr) (ys : NL), i < 2 ∧ H' t = some (.tup [.int ((i + 1 : Nat) : Int), .ref lo]) ∧ H' lo = some (.lst (nv ys)) ∧ row.length ≤ ys.length ∧ B8 ys ∧ (∀ (j x y : Nat), row[j]? = some x → ys[j]? = some y → (Ie11.way (i + 1) above row)[j]? = some ((x + 256 - y) % 256)) ∧ x = .ref t := by
        match i, hx with
        | 0, hx => exact ⟨t1, l1, 0 :: row, by omega, sb _ _ b1, sb _ _ bl, by simp, fun x hx => by
            rcases List.mem_cons.mp hx with h | h
            · omega
            · exact h8 x h, fun j x y h1 h2 => lessBefore_get 0 row j x y h1 h2, (Option.some.inj hx).symm⟩
        | 1, hx => exact ⟨t2, b, above, by omega, sb _ _ b2, sb _ _ (s8 _ _ hb), by omega, h8b, fun j x y h1 h2 => lessAbove_get above row j x y h1 h2, (Option.some.inj hx).symm⟩
      refine ⟨t, _, rfl, SqT.of ht, rfl, _, _, rfl, _, _, rfl, rfl, ?_⟩
      have hsH : Same H H' := Same.trans s8 sb
      refine ⟨_, rfl, (by show 1 ≤ sizeLine; decide), fun y1 ny1 => ?_⟩
      have q1 := Same.trans hsH (same_upd (o := .lst [.int ((i + 1 : Nat) : Int)]) ny1)
      have r1 : Same H' (upd H' y1 (.lst [.int ((i + 1 : Nat) : Int)])) := same_upd ny1
      refine ⟨_, rfl, _, rfl, a, lo, row, ys, Ie11.way (i + 1) above row, rfl, q1 _ _ ha, r1 _ _ hlo, hly, by omega, way_len _ _ _, hy8, hget, fun H3 p3 s3' np3 hp3 => ?_⟩
      refine ⟨p3, _, rfl, hp3, by rw [way_len]; omega, fun H4 p4 s4' np4 hp4 => ?_⟩
      have tl := told_len (i + 1) above row
      have r2 := Same.trans r1 (Same.trans s3' s4')
      refine ⟨y1, p4, _, _, rfl, rfl, s4' _ _ (s3' _ _ upd_same), hp4, small (by unfold told at tl; rw [List.length_cons] at tl; rw [nv_len]; simp; omega), fun tl' ntl => ?_⟩
      have r3 := Same.trans r2 (same_upd (o := .lst ([.int ((i + 1 : Nat) : Int)] ++ nv (Ie11.shortOf (Ie11.way (i + 1) above row)))) ntl)
      have htl : (upd H4 tl' (.lst ([.int ((i + 1 : Nat) : Int)] ++ nv (Ie11.shortOf (Ie11.way (i + 1) above row))))) tl' = some (.lst (nv (told (i + 1) above row))) := upd_same
      have hbs := bst_step above row i hi2
      refine ⟨_, rfl, tl', _, rfl, .inl (SqL.of htl), _, rfl, pb, _, rfl, .inl (SqL.of (r3 _ _ hpb)), _, _, rfl, rfl, _, rfl, ite2 (fun c => ?_) (fun c => ?_)⟩
      · have c1 : (told (i + 1) above row).length < (bst above row i).length := by
          have := of_decide_eq_true c
          rw [nv_len, nv_len] at this
          omega
        rw [if_pos c1] at hbs
        refine ⟨_, rfl, Same.trans sb r3, tl', _, _, _, rfl, (Same.trans hsH r2).free ntl, ?_⟩
        rw [hbs]
        exact htl
      · have c1 : ¬ (told (i + 1) above row).length < (bst above row i).length := fun z => c (decide_eq_true (by rw [nv_len, nv_len]; omega))
        rw [if_neg c1] at hbs
        refine ⟨Same.trans sb r3, pb, _, _, _, rfl, npb, ?_⟩
        rw [hbs]
        exact r3 _ _ hpb
    · rintro σ H' ⟨sb, pb, v3, v4, v5, rfl, npb, hpb⟩
      have e : bst above row 2 = rowOf above row := bestOf_eq above row
      refine ⟨_, rfl, q H' pb (Same.trans s8 sb) npb ?_⟩
      rw [← e]
      exact hpb
/-! ### written_rows -/
theorem rg_all : ∀ (w h : Fin 9), 1 ≤ w.1 → 1 ≤ h.1 → RgC 0 ((w.1 * h.1 : Nat) : Int) (w.1 : Int) h.1 := by
  unfold RgC
  decide
theorem rg_of {w h : Nat} (hw : 1 ≤ w) (hw8 : w ≤ 8) (hh : 1 ≤ h) (hh8 : h ≤ 8) : RgC 0 ((w * h : Nat) : Int) (w : Int) h := rg_all ⟨w, by omega⟩ ⟨h, by omega⟩ hw hh
theorem wh64 {w h : Nat} (hw8 : w ≤ 8) (hh8 : h ≤ 8) : w * h ≤ 64 := Nat.mul_le_mul hw8 hh8
/-- written_rows: slots 0 numbers 1 columns 2 written 3 above 4 start 5 row -/
abbrev s_written_rows : Stmt := top 43
abbrev N_written_rows : List Str := ["numbers", "columns", "written", "above", "start", "row"]
theorem sc_written_rows : FnScope N_written_rows ["numbers", "columns"] (defScope s_written_rows) := ⟨rfl, rfl, rfl, by decide +kernel, rfl, by decide +kernel, by decide +kernel⟩
def spWrittenRows : Sp := fun vs H Q _ => ∃ (a : Addr) (l : NL) (w h : Nat), vs = [.ref a, .int (w : Int)] ∧ H a = some (.lst (nv l)) ∧ l.length = w * h ∧ 1 ≤ w ∧ w ≤ 8 ∧ 1 ≤ h ∧ h ≤ 8 ∧ B8 l ∧
  ∀ H' p, Same H H' → H p = none → H' p = some (.lst (nv (rowsTo w l h))) → Q (.ref p) H'
theorem ok_written_rows {f : Addr} {fd : FuncData} (T : Txt K mg) (C_written_row : Callee P w K mg base 5 "written_row" ["row", "above"] spWrittenRow)
    (F : Fun K "written_rows" "written_rows" s_written_rows f fd) : FnOk P w K mg base CX0 6 f fd ["numbers", "columns"] spWrittenRows := by
  refine F.ok sc_written_rows (fun vs H Q E h => ?_) (fun cdv A outer s H vs Q E hr h => ?_)
  · obtain ⟨a, l, w, h, rfl, _⟩ := h
    rfl
  · obtain ⟨a, l, w, h, rfl, ha, hl, hw, hw8, hh, hh8, h8, q⟩ := h
    refine ⟨_, (pss_cons (ps_set (i := 2) sc_written_rows.nd rfl (Or.inl rfl) (pe_lst pa_nil))
      (pss_cons (ps_set (i := 3) sc_written_rows.nd rfl (Or.inl rfl) (pe_op op_rep (pe_lst (pa_cons pe_int pa_nil)) (pv 1)))
      (pss_cons (ps_for PassesOwn.never rfl (pi_range3 rfl T.b_range (pa_cons pe_int (pa_cons (pe_callB call_len_seq (by rfl) T.b_len PySem.boot_len (pa_cons (pv 0) pa_nil)) (pa_cons (pv 1) pa_nil)))) (pg_name (i := 4) sc_written_rows.nd rfl (Or.inl rfl))
      (pss_cons (ps_set (i := 5) sc_written_rows.nd rfl (Or.inl rfl) (pe_slice sl_list (pv 0) (po_some (pv 4)) (po_some (pe_op op_add (pv 4) (pv 1)))))
      (pss_cons (ps_expr (pe_bm PySem.F.plainAttrs_list PySem.F.slot_list_extend PySem.F.type_list_extend mt_extend (pv 2) (pa_cons (pe_cc C_written_row (hr.mono (by decide)) (pa_cons (pv 5) (pa_cons (pv 3) pa_nil))) pa_nil)))
      (pss_one (ps_set (i := 3) sc_written_rows.nd rfl (Or.inl rfl) (pv 5))))))
      (pss_one (ps_ret (pv 2)))))), ?_⟩
    have h64 := wh64 hw8 hh8
    refine ⟨Nat.zero_le _, fun o no => ?_⟩
    have s1 : Same H (upd H o (.lst [])) := same_upd no
    refine ⟨(by show 1 ≤ sizeLine; decide), fun z nz => ?_⟩
    have s2 := Same.trans s1 (same_upd (o := .lst [.int 0]) nz)
    refine ⟨_, rfl, z, _, _, rfl, rfl, upd_same, by omega, by omega, small (by simp only [List.length_singleton]; omega), fun ab nab => ?_⟩
    have s3 := Same.trans s2 (same_upd (o := .lst (List.replicate (w : Int).toNat [V.int 0]).flatten) nab)
    have ho3 : (upd (upd (upd H o (.lst [])) z (.lst [.int 0])) ab (.lst (List.replicate (w : Int).toNat [V.int 0]).flatten)) o = some (.lst []) := same_upd nab _ _ (same_upd nz _ _ upd_same)
    have nabo : ab ≠ o := (ne_of_none (same_upd (o := .lst [.int 0]) nz o (.lst []) upd_same) nab).symm
    refine ⟨_, rfl, a, nv l, rfl, .inl (SqL.of (s3 _ _ ha)), _, rfl, 0, ((w * h : Nat) : Int), (w : Int), h, ?_, rg_of hw hw8 hh hh8, ?_⟩
    · rw [nv_len, hl]
    refine for_rangeC (lo := 0) (c := (w : Int)) (n := h) (fun i σ H' => Same H H' ∧ ∃ (ab : Addr) (v4 v5 : Option V), σ = [some (.ref a), some (.int (w : Int)), some (.ref o), some (.ref ab), v4, v5] ∧ ab ≠ o ∧ H' o = some (.lst (nv (rowsTo w l i))) ∧ H' ab = some (.lst (nv (aboveAt w l i))))
      ⟨s3, ab, none, none, rfl, nabo, ho3, ?_⟩ ?_ ?_
    · rw [upd_same, flat_rep]
      show some (HO.lst (List.replicate (w : Int).toNat (V.int 0))) = some (HO.lst (nv (List.replicate w 0)))
      rw [nv_rep]
      rfl
    · rintro i σ H' hi ⟨s4, ab, v4, v5, rfl, nabo, ho, hab⟩
      have eS : (0 : Int) + ((i : Nat) : Int) * (w : Int) = ((i * w : Nat) : Int) := by
        rw [Int.zero_add]
        rfl
      rw [eS]
      refine ⟨_, rfl, _, rfl, _, rfl, _, rfl, _, rfl, _, _, rfl, rfl, _, rfl, a, nv l, rfl, SqL.of (s4 _ _ ha), fun r nr => ?_⟩
      have ec : cutV (nv l) (some ((i * w : Nat) : Int)) (some (((i * w : Nat) : Int) + (w : Int))) = nv (Ie11.rowAt w l i) := by
        rw [show ((i * w : Nat) : Int) + (w : Int) = ((i * w + w : Nat) : Int) from rfl, cut_nv, show i * w + w - i * w = w by omega]
        rfl
      rw [ec]
      have s5 := Same.trans s4 (same_upd (o := .lst (nv (Ie11.rowAt w l i))) nr)
      have t5 : Same H' (upd H' r (.lst (nv (Ie11.rowAt w l i)))) := same_upd nr
      have hro : r ≠ o := (ne_of_none ho nr).symm
      refine ⟨_, rfl, .inl ⟨rfl, _, SqL.of (t5 _ _ ho)⟩, _, rfl, _, rfl, r, ab, _, _, rfl, upd_same, t5 _ _ hab, by rw [rowAt_len hl hi, aboveAt_len hl hi], by rw [rowAt_len hl hi]; omega, rowAt_b8 h8 i, aboveAt_b8 h8 i, fun H6 p6 s6 np6 hp6 => ?_⟩
      have hop : o ≠ p6 := ne_of_none (t5 _ _ ho) np6
      have rl := rowOf_len (aboveAt w l i) (Ie11.rowAt w l i)
      have rt := rowsTo_len hl i (Nat.le_of_lt hi)
      rw [rowAt_len hl hi] at rl
      have rt2 : i * (2 * w + 1) ≤ 8 * 17 := Nat.mul_le_mul (by omega) (by omega)
      refine ⟨o, p6, _, _, rfl, rfl, s6 _ _ (t5 _ _ ho), hp6, small (by rw [nv_len, nv_len]; omega), ?_⟩
      refine ⟨_, rfl, same_set (Same.trans s5 s6) no, r, _, _, rfl, hro, ?_, ?_⟩
      · rw [upd_same, rowsTo_succ, nv_app]
      · rw [upd_ne hro, show aboveAt w l (i + 1) = Ie11.rowAt w l i from rfl]
        exact s6 _ _ upd_same
    · rintro σ H' ⟨s4, ab, v4, v5, rfl, nabo, ho, hab⟩
      exact ⟨_, rfl, q H' o s4 no ho⟩
/-! ### added_up -/
/-- added_up: slots 0 told 1 row 2 before 3 x -/
abbrev s_added_up : Stmt := top 44
abbrev N_added_up : List Str := ["told", "row", "before", "x"]
theorem sc_added_up : FnScope N_added_up ["told"] (defScope s_added_up) := ⟨rfl, rfl, rfl, by decide +kernel, rfl, by decide +kernel, by decide +kernel⟩
def spAdded : Sp := fun vs H Q _ => ∃ (a : Addr) (ds : NL), vs = [.ref a] ∧ H a = some (.lst (nv ds)) ∧ ds.length ≤ 3000 ∧
  ∀ H' p, Same H H' → H p = none → H' p = some (.lst (nv (Ie11.backBefore 0 ds))) → Q (.ref p) H'
theorem upTo_len (ds : NL) : (upTo ds).1.length = ds.length := by rw [upTo_eq, backBefore_len]
theorem ok_added_up {f : Addr} {fd : FuncData} (T : Txt K mg) (F : Fun K "added_up" "added_up" s_added_up f fd) : FnOk P w K mg base CX0 1 f fd ["told"] spAdded := by
  refine F.ok sc_added_up (fun vs H Q E h => ?_) (fun cdv A outer s H vs Q E hr h => ?_)
  · obtain ⟨a, ds, rfl, _⟩ := h
    rfl
  · obtain ⟨a, ds, rfl, ha, hlen, q⟩ := h
    refine ⟨_, (pss_cons (ps_set (i := 1) sc_added_up.nd rfl (Or.inl rfl) (pe_lst pa_nil))
      (pss_cons (ps_set (i := 2) sc_added_up.nd rfl (Or.inl rfl) pe_int)
      (pss_cons (ps_for PassesOwn.never rfl (pi_list (pv 0)) (pg_name (i := 3) sc_added_up.nd rfl (Or.inl rfl))
      (pss_cons (ps_set (i := 2) sc_added_up.nd rfl (Or.inl rfl) (pe_op op_mod (pe_op op_add (pv 2) (pv 3)) (pe_k T.c_BYTE_VALUES)))
      (pss_one (ps_expr (pe_bm PySem.F.plainAttrs_list PySem.F.slot_list_append PySem.F.type_list_append mt_append (pv 1) (pa_cons (pv 2) pa_nil))))))
      (pss_one (ps_ret (pv 1)))))), ?_⟩
    refine ⟨Nat.zero_le _, fun o no => ?_⟩
    have s1 : Same H (upd H o (.lst [])) := same_upd no
    refine ⟨_, rfl, a, rfl, ⟨_, SqL.of (s1 _ _ ha)⟩, for_list (K := K) (a := a) (xs := nv ds) (fun i σ H' => Same H H' ∧ ∃ v3 : Option V, σ = [some (.ref a), some (.ref o), some (.int ((upTo (ds.take i)).2 : Int)), v3] ∧ H' o = some (.lst (nv (upTo (ds.take i)).1)))
      ⟨s1, none, rfl, upd_same⟩ (fun i σ H' _ ⟨s2, _⟩ => SqL.of (s2 _ _ ha)) ?_ ?_⟩
    · rintro i v σ H' hv ⟨s2, v3, rfl, ho⟩
      obtain ⟨x, hx, rfl⟩ := nv_of hv
      have hi : i < ds.length := (List.getElem?_eq_some_iff.mp hx).1
      refine ⟨_, rfl, _, rfl, _, _, rfl, rfl, _, _, rfl, rfl, (by show (0 : Int) < 256; decide), ?_⟩
      have e : (((upTo (ds.take i)).2 : Int) + (x : Int)) % 256 = ((((upTo (ds.take i)).2 + x) % 256 : Nat) : Int) := by omega
      refine ⟨_, rfl, .inl ⟨rfl, _, SqL.of ho⟩, _, rfl, o, _, _, rfl, rfl, ho, smalls (by rw [nv_len, upTo_len, List.length_take]; omega), same_set s2 no, some (.int (x : Int)), ?_, ?_⟩
      · rw [take_snoc hx, upTo_snoc, ← e]
        rfl
      · rw [take_snoc hx, upTo_snoc, upd_same, nv_app]
        show some (HO.lst (nv (upTo (ds.take i)).1 ++ [V.int ((((upTo (ds.take i)).2 : Int) + (x : Int)) % 256)])) = _
        rw [e]
        rfl
    · rintro σ H' ⟨s2, v3, rfl, ho⟩
      rw [nv_len, List.take_length, upTo_eq] at ho
      exact ⟨_, rfl, q H' o s2 no ho⟩
/-! ### untold -/
/-- untold: slots 0 way 1 told 2 above 3 x 4 y -/
abbrev s_untold : Stmt := top 45
abbrev N_untold : List Str := ["way", "told", "above", "x", "y"]
theorem sc_untold : FnScope N_untold ["way", "told", "above"] (defScope s_untold) := ⟨rfl, rfl, rfl, by decide +kernel, rfl, by decide +kernel, by decide +kernel⟩
def spUntold : Sp := fun vs H Q _ => ∃ (a b : Addr) (m : Nat) (ds above : NL), vs = [.int (m : Int), .ref a, .ref b] ∧ H a = some (.lst (nv ds)) ∧ H b = some (.lst (nv above)) ∧ ds.length = above.length ∧ ds.length ≤ 3000 ∧ m ≤ 2 ∧
  ∀ H' p, Same H H' → (H p = none ∨ p = a) → H' p = some (.lst (nv (Ie11.back m above ds))) → Q (.ref p) H'
theorem ok_untold {f : Addr} {fd : FuncData} (T : Txt K mg) (C_added_up : Callee P w K mg base 1 "added_up" ["told"] spAdded) (F : Fun K "untold" "untold" s_untold f fd) : FnOk P w K mg base CX0 2 f fd ["way", "told", "above"] spUntold := by
  refine F.ok sc_untold (fun vs H Q E h => ?_) (fun cdv A outer s H vs Q E hr h => ?_)
  · obtain ⟨a, b, m, ds, above, rfl, _⟩ := h
    rfl
  · obtain ⟨a, b, m, ds, above, rfl, ha, hb, hle, hlen, hm, q⟩ := h
    refine ⟨_, (pss_cons (ps_if (pt_cmpR op_eq (pv 0) (pe_k T.c_LESS_BEFORE) (nomark _))
      (pss_one (ps_ret (pe_cc C_added_up (hr.mono (by decide)) (pa_cons (pv 1) pa_nil))))
      pss_nil)
      (pss_cons (ps_if (pt_cmpR op_eq (pv 0) (pe_k T.c_LESS_ABOVE) (nomark _))
      (pss_one (ps_ret (pe_lc (own := [("x", 3), ("y", 4)]) (g := (gTup K 2 (gCons (gName 3) (gCons (gName 4) gNil)))) (tt := tYes) (by rfl) sc_untold.nd (pi_zip (by rfl) T.b_zip (pa_cons (pv 1) (pa_cons (pv 2) pa_nil))) (blkOk_by (N := N_untold) (sc := defScope s_untold) (by decide +kernel)) (fun _ _ _ _ _ => (pg_tup rfl (pgs_cons (pg_name (i := 3) sc_untold.nd rfl (Or.inl rfl)) (pgs_cons (pg_name (i := 4) sc_untold.nd rfl (Or.inl rfl)) pgs_nil)))) (fun _ _ _ _ _ => pts_nil) (fun _ _ _ _ _ => (pe_op op_mod (pe_op op_add (pv 3) (pv 4)) (pe_k T.c_BYTE_VALUES))))))
      pss_nil)
      (pss_one (ps_ret (pv 1))))), ?_⟩
    refine ⟨_, rfl, rfl, _, rfl, ite2 (fun c => ?_) (fun c => ?_)⟩
    · have em : m = 1 := by
        have := V.int.inj (of_decide_eq_true c)
        omega
      subst em
      refine ⟨_, rfl, a, ds, rfl, ha, hlen, fun H' p s1 np hp => ?_⟩
      exact q H' p s1 (.inl np) hp
    · have em : m ≠ 1 := fun e => c (decide_eq_true (by rw [e]; rfl))
      refine ⟨_, rfl, rfl, _, rfl, ite2 (fun c2 => ?_) (fun c2 => ?_)⟩
      · have em2 : m = 2 := by
          have := V.int.inj (of_decide_eq_true c2)
          omega
        subst em2
        refine ⟨_, rfl, _, rfl, a, b, nv ds, nv above, rfl, SqL.of ha, SqL.of hb, fun D nD => ?_⟩
        refine lc_zip (K := K) (a := a) (b := b) (xs := nv ds) (ys := nv above) (fun i H' => Same H H' ∧ H' D = some (.lst (nv ((Ie11.backAbove above ds).take i)))) ⟨same_upd nD, upd_same⟩ (fun i H' ⟨s1, _⟩ => ⟨SqL.of (s1 _ _ ha), SqL.of (s1 _ _ hb)⟩) ?_ ?_
        · rintro i vx vy T H' hvx hvy ⟨s1, hD⟩ nT
          obtain ⟨x, hx, rfl⟩ := nv_of hvx
          obtain ⟨y, hy, rfl⟩ := nv_of hvy
          have hrr := backAbove_get above ds i x y hx hy
          have nDT : D ≠ T := ne_of_none hD nT
          refine ⟨T, _, rfl, SqT.of upd_same, rfl, _, _, rfl, _, _, rfl, rfl, rfl, yes_of ?_⟩
          have hi : i < ds.length := (List.getElem?_eq_some_iff.mp hx).1
          refine ⟨_, rfl, _, rfl, _, _, rfl, rfl, _, _, rfl, rfl, (by show (0 : Int) < 256; decide), nv ((Ie11.backAbove above ds).take i), ?_, smalls (by rw [nv_len, List.length_take]; omega), ?_, ?_⟩
          · rw [upd_ne nDT]
            exact hD
          · exact same_set (Same.trans s1 (same_upd nT)) nD
          · rw [upd_same, nv_snoc hrr]
            show some (HO.lst (nv ((Ie11.backAbove above ds).take i) ++ [V.int (((x : Int) + (y : Int)) % 256)])) = _
            rw [show ((x : Int) + (y : Int)) % 256 = (((x + y) % 256 : Nat) : Int) by omega]
        · rintro H' ⟨s1, hD⟩
          rw [nv_len, nv_len, ← hle, Nat.min_self, List.take_of_length_le (by rw [backAbove_len]; exact Nat.le_refl _)] at hD
          exact q H' D s1 (.inl nD) hD
      · have em2 : m = 0 := by
          by_cases z : m = 2
          · exact absurd (decide_eq_true (by rw [z]; rfl)) c2
          · omega
        subst em2
        exact ⟨_, rfl, q H a (Same.refl _) (.inr rfl) ha⟩
/-! ### read_rows -/
/-- read_rows: slots 0 body 1 at 2 columns 3 rows 4 numbers 5 above 6 short -/
abbrev s_read_rows : Stmt := top 46
abbrev N_read_rows : List Str := ["body", "at", "columns", "rows", "numbers", "above", "short"]
theorem sc_read_rows : FnScope N_read_rows ["body", "at", "columns", "rows"] (defScope s_read_rows) := ⟨rfl, rfl, rfl, by decide +kernel, rfl, by decide +kernel, by decide +kernel⟩
def spReadRows : Sp := fun vs H Q _ => ∃ (a : Addr) (b : NL) (i w h : Nat), vs = [.ref a, .int (i : Int), .int (w : Int), .int (h : Int)] ∧ H a = some (.lst (nv b)) ∧ b.length ≤ 3000 ∧ B8 b ∧ 1 ≤ w ∧ w ≤ 8 ∧ 1 ≤ h ∧ h ≤ 8 ∧
  (Ie11.readRows w h [] (b.drop i) = none → ∀ H', Same H H' → Q .non H') ∧
  ∀ l, Ie11.readRows w h [] (b.drop i) = some l → ∀ H' p, Same H H' → H p = none → H' p = some (.lst (nv l)) → Q (.ref p) H'
theorem ok_read_rows {f : Addr} {fd : FuncData} (T : Txt K mg) (C_read_short : Callee P w K mg base 2 "read_short" ["some_bytes", "at", "wanted"] spReadShort) (C_untold : Callee P w K mg base 2 "untold" ["way", "told", "above"] spUntold)
    (F : Fun K "read_rows" "read_rows" s_read_rows f fd) : FnOk P w K mg base CX0 3 f fd ["body", "at", "columns", "rows"] spReadRows := by
  refine F.ok sc_read_rows (fun vs H Q E h => ?_) (fun cdv A outer s H vs Q E hr h => ?_)
  · obtain ⟨a, b, i, w, h, rfl, _⟩ := h
    rfl
  · obtain ⟨a, b, i, w, h, rfl, ha, hlen, h8, hw, hw8, hh, hh8, q0, q1⟩ := h
    refine ⟨_, (pss_cons (ps_set (i := 4) sc_read_rows.nd rfl (Or.inl rfl) (pe_lst pa_nil))
      (pss_cons (ps_set (i := 5) sc_read_rows.nd rfl (Or.inl rfl) (pe_op op_rep (pe_lst (pa_cons pe_int pa_nil)) (pv 2)))
      (pss_cons (ps_while PassesOwn.never (pt_cmpR op_lt (pe_callB call_len_seq (by rfl) T.b_len PySem.boot_len (pa_cons (pv 4) pa_nil)) (pe_op op_mul (pv 2) (pv 3)) (nomark _))
      (pss_cons (ps_if (PW.pt (pw_or (pt_cmpR op_ge (pv 1) (pe_callB call_len_seq (by rfl) T.b_len PySem.boot_len (pa_cons (pv 0) pa_nil)) (nomark _)) (pw_or1 (pt_cmpR op_gt (pe_ix ix_list (pv 0) (pv 1) (fun _ _ => rfl)) (pe_k T.c_LESS_ABOVE) (nomark _)))))
      (pss_one (ps_ret pe_non))
      pss_nil)
      (pss_cons (ps_set (i := 6) sc_read_rows.nd rfl (Or.inl rfl) (pe_cc C_read_short (hr.mono (by decide)) (pa_cons (pv 0) (pa_cons (pe_op op_add (pv 1) pe_int) (pa_cons (pv 2) pa_nil)))))
      (pss_cons (ps_if (pt_cmpR op_isN (pv 6) pe_non (nomark _))
      (pss_one (ps_ret pe_non))
      pss_nil)
      (pss_cons (ps_set (i := 5) sc_read_rows.nd rfl (Or.inl rfl) (pe_cc C_untold (hr.mono (by decide)) (pa_cons (pe_ix ix_list (pv 0) (pv 1) (fun _ _ => rfl)) (pa_cons (pe_ix ix_tup (pv 6) pe_int (fun _ _ => rfl)) (pa_cons (pv 5) pa_nil)))))
      (pss_cons (ps_expr (pe_bm PySem.F.plainAttrs_list PySem.F.slot_list_extend PySem.F.type_list_extend mt_extend (pv 4) (pa_cons (pv 5) pa_nil)))
      (pss_one (ps_set (i := 1) sc_read_rows.nd rfl (Or.inl rfl) (pe_ix ix_tup (pv 6) pe_int (fun _ _ => rfl))))))))))
      (pss_cons (ps_if (pt_cmpR op_lt (pv 1) (pe_callB call_len_seq (by rfl) T.b_len PySem.boot_len (pa_cons (pv 0) pa_nil)) (nomark _))
      (pss_one (ps_ret pe_non))
      pss_nil)
      (pss_one (ps_ret (pv 4))))))), ?_⟩
    have h64 := wh64 hw8 hh8
    refine ⟨Nat.zero_le _, fun o no => ?_⟩
    have s1 : Same H (upd H o (.lst [])) := same_upd no
    refine ⟨(by show 1 ≤ sizeLine; decide), fun z nz => ?_⟩
    have s2 := Same.trans s1 (same_upd (o := .lst [.int 0]) nz)
    refine ⟨_, rfl, z, _, _, rfl, rfl, upd_same, by omega, by omega, small (by simp only [List.length_singleton]; omega), fun ab nab => ?_⟩
    have s3 := Same.trans s2 (same_upd (o := .lst (List.replicate (w : Int).toNat [V.int 0]).flatten) nab)
    have ho3 : (upd (upd (upd H o (.lst [])) z (.lst [.int 0])) ab (.lst (List.replicate (w : Int).toNat [V.int 0]).flatten)) o = some (.lst []) := same_upd nab _ _ (same_upd nz _ _ upd_same)
    have nabo : ab ≠ o := (ne_of_none (same_upd (o := .lst [.int 0]) nz o (.lst []) upd_same) nab).symm
    refine ⟨fun m σ H' => Same H H' ∧ ∃ (j k : Nat) (acc above : NL) (ab : Addr) (v : Option V), σ = [some (.ref a), some (.int (j : Int)), some (.int (w : Int)), some (.int (h : Int)), some (.ref o), some (.ref ab), v] ∧ k ≤ h ∧ acc.length = k * w ∧ above.length = w ∧ ab ≠ o ∧ H' o = some (.lst (nv acc)) ∧ H' ab = some (.lst (nv above)) ∧ RowsGo w h (b.drop i) k acc above (b.drop j) ∧ m = h - k,
      ⟨_, s3, i, 0, [], List.replicate w 0, ab, none, rfl, Nat.zero_le _, by simp, List.length_replicate, nabo, ho3, ?_, RowsGo.start w h _, rfl⟩, ?_⟩
    · rw [upd_same, flat_rep]
      show some (HO.lst (List.replicate (w : Int).toNat (V.int 0))) = some (HO.lst (nv (List.replicate w 0)))
      rw [nv_rep]
      rfl
    rintro m σ H' ⟨s4, j, k, acc, above, ab, v, rfl, hk, hacc, habl, nabo, ho, hab, R, rfl⟩
    have hL : H' a = some (.lst (nv b)) := s4 _ _ ha
    have hS : SqL K H' a (nv b) := SqL.of hL
    have kw : k * w ≤ 64 := Nat.le_trans (Nat.mul_le_mul_right w hk) (by rw [Nat.mul_comm]; exact h64)
    refine ⟨_, rfl, o, _, rfl, .inl (SqL.of ho), _, rfl, _, rfl, _, _, rfl, rfl, .inl ⟨by omega, by omega⟩, _, _, rfl, rfl, _, rfl, ite2 (fun c => ?_) (fun c => ?_)⟩
    · have hkh : k < h := by
        have c1 := of_decide_eq_true c
        rw [nv_len, hacc] at c1
        have c2 : k * w < w * h := by
          have : ((w : Int) * (h : Int)) = ((w * h : Nat) : Int) := rfl
          omega
        rw [Nat.mul_comm w h] at c2
        exact Nat.lt_of_mul_lt_mul_right c2
      refine ⟨fun σ' H2 => Same H H2 ∧ ∃ (j2 : Nat) (acc2 above2 : NL) (ab2 : Addr) (v2 : Option V), σ' = [some (.ref a), some (.int (j2 : Int)), some (.int (w : Int)), some (.int (h : Int)), some (.ref o), some (.ref ab2), v2] ∧ acc2.length = (k + 1) * w ∧ above2.length = w ∧ ab2 ≠ o ∧ H2 o = some (.lst (nv acc2)) ∧ H2 ab2 = some (.lst (nv above2)) ∧ RowsGo w h (b.drop i) (k + 1) acc2 above2 (b.drop j2), ?_, ?_⟩
      · rintro σ' H2 ⟨t1, j2, acc2, above2, ab2, v2, rfl, t2, t3, t4, t5, t6, t7⟩
        exact ⟨h - (k + 1), by omega, t1, j2, k + 1, acc2, above2, ab2, v2, rfl, hkh, t2, t3, t4, t5, t6, t7, rfl⟩
      · refine ⟨_, rfl, _, rfl, a, nv b, rfl, .inl hS, _, _, rfl, rfl, _, rfl, ite2 (fun c1 => ?_) (fun c1 => ?_)⟩
        · refine iteT ?_
          have hj : b.length ≤ j := by
            have := of_decide_eq_true c1
            rw [nv_len] at this
            omega
          rw [List.drop_of_length_le hj] at R
          exact q0 (R.short hkh) H' s4
        · have hj : j < b.length := by
            by_cases z : j < b.length
            · exact z
            · exact absurd (decide_eq_true (by rw [nv_len]; omega)) c1
          obtain ⟨y, hy⟩ : ∃ y, b[j]? = some y := ⟨_, List.getElem?_eq_getElem hj⟩
          have ed : b.drop j = y :: b.drop (j + 1) := by
            rw [List.drop_eq_getElem_cons hj]
            rw [List.getElem?_eq_getElem hj] at hy
            rw [Option.some.inj hy]
          rw [ed] at R
          refine ⟨_, rfl, _, rfl, a, nv b, _, _, rfl, rfl, hS, nv_at hy, _, _, rfl, rfl, _, rfl, ite2 (fun c2 => ?_) (fun c2 => ?_)⟩
          · have := of_decide_eq_true c2
            exact q0 (R.way hkh (by omega)) H' s4
          · have hy2 : ¬ 2 < y := fun z => c2 (decide_eq_true (by omega))
            refine ⟨_, rfl, _, rfl, _, _, rfl, rfl, _, rfl, a, b, j + 1, w, rfl, hL, hlen, h8, by omega, by omega, fun e H5 s5 => ?_, fun sr e H5 p5 c5 j5 s5 np5 nc5 hp5 hc5 es hj5 hjl => ?_⟩
            · refine ⟨_, rfl, rfl, _, rfl, iteT ?_⟩
              exact q0 (R.no hkh e) H5 (Same.trans s4 s5)
            · have ll := long_len w w _ _ (Nat.le_refl _) e
              have hoc : c5 ≠ o := (ne_of_none ho nc5).symm
              refine ⟨_, rfl, rfl, _, rfl, iteF ?_⟩
              refine ⟨_, rfl, _, rfl, a, nv b, _, _, rfl, rfl, SqL.of (s5 _ _ hL), nv_at hy, _, rfl, p5, _, _, _, rfl, rfl, SqT.of hp5, atI_nat (j := 0) rfl, _, rfl, c5, ab, y, sr.1, above, rfl, hc5, s5 _ _ hab, by omega, by omega, by omega, fun H6 p6 s6 hp6n hp6 => ?_⟩
              have ho6 := s6 _ _ (s5 _ _ ho)
              have nop : p6 ≠ o := by
                rcases hp6n with z | z
                · exact (ne_of_none (s5 _ _ ho) z).symm
                · rw [z]
                  exact hoc
              have np5o : p5 ≠ o := (ne_of_none ho np5).symm
              have k1 : (k + 1) * w = k * w + w := Nat.succ_mul k w
              refine ⟨_, rfl, .inl ⟨rfl, _, SqL.of ho6⟩, _, rfl, o, p6, _, _, rfl, rfl, ho6, hp6, small (by rw [nv_len, nv_len, back_len]; omega), ?_⟩
              refine ⟨_, rfl, p5, _, _, _, rfl, rfl, SqT.of (xs := [.ref c5, .int (j5 : Int)]) (by rw [upd_ne np5o]; exact s6 _ _ hp5), atI_nat (j := 1) rfl, same_set (Same.trans (Same.trans s4 s5) s6) no, j5, acc ++ Ie11.back y above sr.1, Ie11.back y above sr.1, p6, _, rfl, ?_, ?_, nop, ?_, ?_, ?_⟩
              · rw [List.length_append, back_len, ll, k1, hacc]
              · rw [back_len, ll]
              · rw [upd_same, nv_app]
              · rw [upd_ne nop]
                exact hp6
              · rw [← es]
                exact R.step hkh hy2 e
    · have hkh : k = h := by
        by_cases z : k < h
        · refine absurd (decide_eq_true ?_) c
          rw [nv_len, hacc]
          have c2 : k * w < h * w := Nat.mul_lt_mul_of_pos_right z (by omega)
          rw [Nat.mul_comm h w] at c2
          have : ((w : Int) * (h : Int)) = ((w * h : Nat) : Int) := rfl
          omega
        · omega
      refine ⟨_, rfl, _, rfl, a, nv b, rfl, .inl hS, _, _, rfl, rfl, _, rfl, ite2 (fun c1 => ?_) (fun c1 => ?_)⟩
      · have hj : j < b.length := by
          have := of_decide_eq_true c1
          rw [nv_len] at this
          omega
        rw [List.drop_eq_getElem_cons hj] at R
        exact q0 (R.more hkh) H' s4
      · have hj : b.length ≤ j := by
          by_cases z : j < b.length
          · exact absurd (decide_eq_true (by rw [nv_len]; omega)) c1
          · omega
        rw [List.drop_of_length_le hj] at R
        exact ⟨_, rfl, q1 _ (R.done hkh) H' o s4 no ho⟩
end
end Pf
end
section
set_option Elab.async false
set_option linter.all false
set_option maxRecDepth 100000
set_option maxHeartbeats 4000000
namespace Pf
open PySem PySem.Spec PyProof.Rows L2
/-! ### lists of numbers compared -/
def dl (l : NL) : List PyData := l.map fun (n : Nat) => PyData.int (n : Int)
theorem dl_can : ∀ l : NL, PyData.canLayAll0 (dl l) = true
  | [] => by simp [dl, PyData.canLayAll0]
  | x :: r => by
    have := dl_can r
    simp only [dl, List.map_cons, PyData.canLayAll0, PyData.canLay0, Bool.true_and] at this ⊢
    exact this
theorem dl_depth : ∀ l : NL, PyData.depthAll (dl l) ≤ 1
  | [] => by simp [dl, PyData.depthAll]
  | x :: r => by
    have := dl_depth r
    simp only [dl, List.map_cons, PyData.depthAll, PyData.depth] at this ⊢
    omega
theorem dl_shaped (l : NL) : SeqAt.shaped (.list (dl l)) = true := by
  unfold SeqAt.shaped
  have := dl_depth l
  simp only [PyData.canLay0, PyData.depth, dl_can, Bool.true_and]
  exact decide_eq_true (by omega)
theorem dl_shapedT (l : NL) : SeqAt.shaped (.tuple (dl l)) = true := by
  unfold SeqAt.shaped
  have := dl_depth l
  simp only [PyData.canLay0, PyData.depth, dl_can, Bool.true_and]
  exact decide_eq_true (by omega)
theorem dl_eqv : ∀ l r : NL, PyData.eqvAll (dl l) (dl r) = decide (l = r)
  | [], [] => by simp [dl, PyData.eqvAll]
  | [], y :: r => by simp [dl, PyData.eqvAll]
  | x :: l, [] => by simp [dl, PyData.eqvAll]
  | x :: l, y :: r => by
    have := dl_eqv l r
    simp only [dl, List.map_cons, PyData.eqvAll, PyData.eqv] at this ⊢
    rw [this]
    by_cases h : x = y
    · subst h
      simp
    · have h2 : ¬ (x : Int) = (y : Int) := by omega
      simp [h, h2]
theorem dp_all {K : PySem.W.Frag} {H : Hp} : ∀ l : NL, DpAll K H (nv l) (dl l)
  | [] => .nil
  | x :: r => .cons (.int _) (dp_all r)
theorem dp_lst {K : PySem.W.Frag} {H : Hp} {a : Addr} {l : NL} (h : H a = some (.lst (nv l))) : Dp K H (.ref a) (.list (dl l)) := .lst (SqL.of h) (dp_all l)
theorem eqv_lst (l r : NL) : PyData.eqv (.list (dl l)) (.list (dl r)) = decide (l = r) := by
  simp only [PyData.eqv]
  exact dl_eqv l r
theorem eqv_tup (l r : NL) : PyData.eqv (.tuple (dl l)) (.tuple (dl r)) = decide (l = r) := by
  simp only [PyData.eqv]
  exact dl_eqv l r
section
variable {P : Program} {w : World} {K : PySem.W.Frag} {mg : Str → Option Value} {base : Heap}
/-! ### is_page -/
/-- is_page: slots 0 columns 1 rows -/
abbrev s_is_page : Stmt := top 12
abbrev N_is_page : List Str := ["columns", "rows"]
theorem sc_is_page : FnScope N_is_page ["columns", "rows"] (defScope s_is_page) := ⟨rfl, rfl, rfl, by decide +kernel, rfl, by decide +kernel, by decide +kernel⟩
def spIsPage : Sp := fun vs H Q _ => ∃ w h : Nat, vs = [.int (w : Int), .int (h : Int)] ∧ Q (.bl (pageOk w h)) H
theorem ok_is_page {f : Addr} {fd : FuncData} (T : Txt K mg) (F : Fun K "is_page" "is_page" s_is_page f fd) : FnOk P w K mg base CX0 1 f fd ["columns", "rows"] spIsPage := by
  refine F.ok sc_is_page (fun vs H Q E h => ?_) (fun cdv A outer s H vs Q E hr h => ?_)
  · obtain ⟨w, h, rfl, _⟩ := h
    rfl
  · obtain ⟨w, h, rfl, q⟩ := h
    refine ⟨_, (pss_one (ps_ret (pe_and (pe_chain op_le op_le pe_int (pv 0) (pe_k T.c_MOST_SIDE)) (pe_one (pe_chain op_le op_le pe_int (pv 1) (pe_k T.c_MOST_SIDE)))))), ?_⟩
    have no : ¬ (1 ≤ w ∧ w ≤ 8 ∧ 1 ≤ h ∧ h ≤ 8) → Q (.bl false) H := fun z => by
      rw [show pageOk w h = false from decide_eq_false z] at q
      exact q
    have yes : (1 ≤ w ∧ w ≤ 8 ∧ 1 ≤ h ∧ h ≤ 8) → Q (.bl true) H := fun z => by
      rw [show pageOk w h = true from decide_eq_true z] at q
      exact q
    refine ⟨_, rfl, _, _, rfl, rfl, _, rfl, ite2 (fun c1 => ?_) (fun c1 => ?_)⟩
    · have c1 := of_decide_eq_true c1
      refine ⟨_, _, rfl, rfl, _, rfl, ite2 (fun c2 => ?_) (fun c2 => ?_)⟩
      · have c2 := of_decide_eq_true c2
        refine ⟨_, rfl, _, _, rfl, rfl, _, rfl, ite2 (fun c3 => ?_) (fun c3 => ?_)⟩
        · have c3 := of_decide_eq_true c3
          refine ⟨_, _, rfl, rfl, ?_⟩
          by_cases c4 : h ≤ 8
          · show Q (.bl (decide ((h : Int) ≤ 8))) H
            rw [decide_eq_true (by omega : (h : Int) ≤ 8)]
            exact yes (by omega)
          · show Q (.bl (decide ((h : Int) ≤ 8))) H
            rw [decide_eq_false (by omega : ¬ (h : Int) ≤ 8)]
            exact no (by omega)
        · exact no fun z => c3 (decide_eq_true (by omega))
      · exact no fun z => c2 (decide_eq_true (by omega))
    · exact ⟨_, rfl, iteF (no fun z => c1 (decide_eq_true (by omega)))⟩
/-! ### are_bytes -/
/-- are_bytes: slots 0 numbers 1 number -/
abbrev s_are_bytes : Stmt := top 13
abbrev N_are_bytes : List Str := ["numbers", "number"]
theorem sc_are_bytes : FnScope N_are_bytes ["numbers"] (defScope s_are_bytes) := ⟨rfl, rfl, rfl, by decide +kernel, rfl, by decide +kernel, by decide +kernel⟩
def spAreBytes : Sp := fun vs H Q _ => ∃ (a : Addr) (l : NL), vs = [.ref a] ∧ H a = some (.lst (nv l)) ∧ l.length ≤ 3000 ∧ ∀ H', Same H H' → Q (.bl (Ie11.isBytes l)) H'
theorem ok_are_bytes {f : Addr} {fd : FuncData} (T : Txt K mg) (F : Fun K "are_bytes" "are_bytes" s_are_bytes f fd) : FnOk P w K mg base CX0 1 f fd ["numbers"] spAreBytes := by
  refine F.ok sc_are_bytes (fun vs H Q E h => ?_) (fun cdv A outer s H vs Q E hr h => ?_)
  · obtain ⟨a, l, rfl, _⟩ := h
    rfl
  · obtain ⟨a, l, rfl, ha, hlen, q⟩ := h
    refine ⟨_, (pss_one (ps_ret (pe_callB (cr_all rfl) (by rfl) T.b_all (by decide +kernel) (pa_cons (pe_lc (own := [("number", 1)]) (g := (gName 1)) (tt := tYes) (by rfl) sc_are_bytes.nd (pi_list (pv 0)) (blkOk_by (N := N_are_bytes) (sc := defScope s_are_bytes) (by decide +kernel)) (fun _ _ _ _ _ => (pg_name (i := 1) sc_are_bytes.nd rfl (Or.inl rfl))) (fun _ _ _ _ _ => pts_nil) (fun _ _ _ _ _ => (pe_cmpR op_le (pv 1) (pe_k T.c_MOST_BYTE) (nomark _)))) pa_nil)))), ?_⟩
    refine ⟨_, rfl, a, rfl, ⟨_, SqL.of ha⟩, fun D nD => ?_⟩
    refine lc_list (K := K) (a := a) (xs := nv l) (fun i H' => Same H H' ∧ H' D = some (.lst ((l.take i).map fun x => V.bl (decide (x ≤ 255))))) ⟨same_upd nD, upd_same⟩ (fun i H' _ ⟨s1, _⟩ => SqL.of (s1 _ _ ha)) ?_ ?_
    · rintro i v H' hv ⟨s1, hD⟩
      obtain ⟨x, hx, rfl⟩ := nv_of hv
      have hi : i < l.length := (List.getElem?_eq_some_iff.mp hx).1
      refine ⟨rfl, yes_of ?_⟩
      refine ⟨_, rfl, _, _, rfl, rfl, _, hD, smalls (by rw [List.length_map, List.length_take]; omega), same_set s1 nD, ?_⟩
      rw [upd_same, take_snoc hx, List.map_append]
      show some (HO.lst (_ ++ [V.bl (decide ((x : Int) ≤ 255))])) = some (HO.lst (_ ++ [V.bl (decide (x ≤ 255))]))
      rw [show decide ((x : Int) ≤ 255) = decide (x ≤ 255) by congr 1; apply propext; omega]
    · rintro H' ⟨s1, hD⟩
      rw [nv_len, List.take_length] at hD
      refine ⟨D, l.map fun x => decide (x ≤ 255), rfl, SqL.of ?_, ?_⟩
      · rw [hD, List.map_map]
        rfl
      · rw [List.all_map]
        exact q H' s1
/-! ### byte_sum -/
/-- byte_sum: slots 0 some_bytes 1 s 2 x -/
abbrev s_byte_sum : Stmt := top 20
abbrev N_byte_sum : List Str := ["some_bytes", "s", "x"]
theorem sc_byte_sum : FnScope N_byte_sum ["some_bytes"] (defScope s_byte_sum) := ⟨rfl, rfl, rfl, by decide +kernel, rfl, by decide +kernel, by decide +kernel⟩
def spSum : Sp := fun vs H Q _ => ∃ (a : Addr) (l : NL), vs = [.ref a] ∧ H a = some (.lst (nv l)) ∧ Q (.int (Ie11.sumOf l : Int)) H
theorem ok_byte_sum {f : Addr} {fd : FuncData} (T : Txt K mg) (F : Fun K "byte_sum" "byte_sum" s_byte_sum f fd) : FnOk P w K mg base CX0 1 f fd ["some_bytes"] spSum := by
  refine F.ok sc_byte_sum (fun vs H Q E h => ?_) (fun cdv A outer s H vs Q E hr h => ?_)
  · obtain ⟨a, l, rfl, _⟩ := h
    rfl
  · obtain ⟨a, l, rfl, ha, q⟩ := h
    refine ⟨_, (pss_cons (ps_set (i := 1) sc_byte_sum.nd rfl (Or.inl rfl) (pe_k T.c_SUM_START))
      (pss_cons (ps_for PassesOwn.never rfl (pi_list (pv 0)) (pg_name (i := 2) sc_byte_sum.nd rfl (Or.inl rfl))
      (pss_one (ps_set (i := 1) sc_byte_sum.nd rfl (Or.inl rfl) (pe_op op_mod (pe_op op_add (pe_op op_add (pe_op op_mul (pe_k T.c_SUM_FACTOR) (pv 1)) (pv 2)) pe_int) (pe_k T.c_SUM_MODULUS)))))
      (pss_one (ps_ret (pv 1))))), ?_⟩
    refine ⟨_, rfl, a, rfl, ⟨_, SqL.of ha⟩, for_list (K := K) (a := a) (xs := nv l) (fun i σ H' => H' = H ∧ ∃ v : Option V, σ = [some (.ref a), some (.int (Ie11.sumOf (l.take i) : Int)), v])
      ⟨rfl, none, rfl⟩ (fun i σ H' _ ⟨e, _⟩ => SqL.of (by rw [e]; exact ha)) ?_ ?_⟩
    · rintro i v σ H' hv ⟨rfl, v2, rfl⟩
      obtain ⟨x, hx, rfl⟩ := nv_of hv
      refine ⟨_, rfl, _, _, rfl, rfl, .inl ⟨by decide, by decide⟩, _, rfl, _, _, rfl, rfl, _, _, rfl, rfl, _, _, rfl, rfl, (by show (0 : Int) < 65521; decide), rfl, some (.int (x : Int)), ?_⟩
      have e : (31 * (Ie11.sumOf (l.take i) : Int) + (x : Int) + 1) % 65521 = ((Ie11.sumOf (l.take (i + 1)) : Nat) : Int) := by
        rw [take_snoc hx, sumOf_snoc]
        omega
      rw [← e]
      rfl
    · rintro σ H' ⟨rfl, v2, rfl⟩
      rw [nv_len, List.take_length]
      exact ⟨_, rfl, q⟩
/-! ### two_bytes -/
/-- two_bytes: slots 0 number -/
abbrev s_two_bytes : Stmt := top 21
abbrev N_two_bytes : List Str := ["number"]
theorem sc_two_bytes : FnScope N_two_bytes ["number"] (defScope s_two_bytes) := ⟨rfl, rfl, rfl, by decide +kernel, rfl, by decide +kernel, by decide +kernel⟩
def spTwo : Sp := fun vs H Q _ => ∃ n : Nat, vs = [.int (n : Int)] ∧ ∀ H' p, Same H H' → H p = none → H' p = some (.lst (nv [n / 256, n % 256])) → Q (.ref p) H'
theorem ok_two_bytes {f : Addr} {fd : FuncData} (T : Txt K mg) (F : Fun K "two_bytes" "two_bytes" s_two_bytes f fd) : FnOk P w K mg base CX0 1 f fd ["number"] spTwo := by
  refine F.ok sc_two_bytes (fun vs H Q E h => ?_) (fun cdv A outer s H vs Q E hr h => ?_)
  · obtain ⟨n, rfl, _⟩ := h
    rfl
  · obtain ⟨n, rfl, q⟩ := h
    refine ⟨_, (pss_one (ps_ret (pe_lst (pa_cons (pe_op op_fdiv (pv 0) (pe_k T.c_BYTE_VALUES)) (pa_cons (pe_op op_mod (pv 0) (pe_k T.c_BYTE_VALUES)) pa_nil))))), ?_⟩
    refine ⟨_, rfl, _, _, rfl, rfl, ⟨by decide, by decide⟩, _, rfl, _, _, rfl, rfl, (by show (0 : Int) < 256; decide), (by show 2 ≤ sizeLine; decide), fun p np => ?_⟩
    refine q _ p (same_upd np) np ?_
    rw [upd_same]
    show some (HO.lst [V.int ((n : Int) / 256), V.int ((n : Int) % 256)]) = some (HO.lst [V.int ((n / 256 : Nat) : Int), V.int ((n % 256 : Nat) : Int)])
    rw [show (n : Int) / 256 = ((n / 256 : Nat) : Int) by omega, show (n : Int) % 256 = ((n % 256 : Nat) : Int) by omega]
/-! ### written_part -/
/-- written_part: slots 0 kind 1 body 2 summed -/
abbrev s_written_part : Stmt := top 22
abbrev N_written_part : List Str := ["kind", "body", "summed"]
theorem sc_written_part : FnScope N_written_part ["kind", "body"] (defScope s_written_part) := ⟨rfl, rfl, rfl, by decide +kernel, rfl, by decide +kernel, by decide +kernel⟩
def spPart : Sp := fun vs H Q _ => ∃ (a : Addr) (k : Nat) (b : NL), vs = [.int (k : Int), .ref a] ∧ H a = some (.lst (nv b)) ∧ b.length ≤ 3000 ∧
  ∀ H' p, Same H H' → H p = none → H' p = some (.lst (nv (⟨k, b⟩ : Ie11.Part).bytes)) → Q (.ref p) H'
theorem ok_written_part {f : Addr} {fd : FuncData} (T : Txt K mg) (C_two_bytes : Callee P w K mg base 1 "two_bytes" ["number"] spTwo) (C_byte_sum : Callee P w K mg base 1 "byte_sum" ["some_bytes"] spSum)
    (F : Fun K "written_part" "written_part" s_written_part f fd) : FnOk P w K mg base CX0 2 f fd ["kind", "body"] spPart := by
  refine F.ok sc_written_part (fun vs H Q E h => ?_) (fun cdv A outer s H vs Q E hr h => ?_)
  · obtain ⟨a, k, b, rfl, _⟩ := h
    rfl
  · obtain ⟨a, k, b, rfl, ha, hlen, q⟩ := h
    refine ⟨_, (pss_cons (ps_set (i := 2) sc_written_part.nd rfl (Or.inl rfl) (pe_op op_cat (pe_op op_cat (pe_lst (pa_cons (pv 0) pa_nil)) (pe_cc C_two_bytes (hr.mono (by decide)) (pa_cons (pe_callB call_len_seq (by rfl) T.b_len PySem.boot_len (pa_cons (pv 1) pa_nil)) pa_nil))) (pv 1)))
      (pss_one (ps_ret (pe_op op_cat (pv 2) (pe_cc C_two_bytes (hr.mono (by decide)) (pa_cons (pe_cc C_byte_sum (hr.mono (by decide)) (pa_cons (pv 2) pa_nil)) pa_nil)))))), ?_⟩
    refine ⟨_, rfl, (by show 1 ≤ sizeLine; decide), fun z nz => ?_⟩
    have s1 : Same H (upd H z (.lst [.int (k : Int)])) := same_upd nz
    refine ⟨_, rfl, a, nv b, rfl, .inl (SqL.of (s1 _ _ ha)), b.length, by rw [nv_len]; rfl, fun H2 p2 s2 np2 hp2 => ?_⟩
    refine ⟨z, p2, _, _, rfl, rfl, s2 _ _ upd_same, hp2, small (by rw [nv_len]; simp), fun x nx => ?_⟩
    have s3 := Same.trans (Same.trans s1 s2) (same_upd (o := .lst ([.int (k : Int)] ++ nv [b.length / 256, b.length % 256])) nx)
    refine ⟨_, rfl, x, a, _, _, rfl, rfl, upd_same, s3 _ _ ha, small (by rw [List.length_append, nv_len, nv_len]; simp; omega), fun u nu => ?_⟩
    have s4 := Same.trans s3 (same_upd (o := .lst ([.int (k : Int)] ++ nv [b.length / 256, b.length % 256] ++ nv b)) nu)
    generalize hsu : k :: [b.length / 256, b.length % 256] ++ b = su
    have hu : (upd (upd H2 x (.lst ([.int (k : Int)] ++ nv [b.length / 256, b.length % 256]))) u (.lst ([.int (k : Int)] ++ nv [b.length / 256, b.length % 256] ++ nv b))) u = some (.lst (nv su)) := by
      rw [upd_same, ← hsu, nv_app]
      rfl
    have ls : su.length = b.length + 3 := by
      rw [← hsu]
      simp
    refine ⟨_, rfl, _, rfl, u, su, rfl, hu, Ie11.sumOf su, rfl, fun H5 p5 s5 np5 hp5 => ?_⟩
    refine ⟨u, p5, _, _, rfl, rfl, s5 _ _ hu, hp5, small (by rw [nv_len, nv_len]; simp; omega), fun r nr => ?_⟩
    refine q _ r (Same.trans (Same.trans s4 s5) (same_upd nr)) ((Same.trans s4 s5).free nr) ?_
    rw [upd_same, part_bytes (by omega), hsu, nv_app]
/-! ### whole_part -/
/-- whole_part: slots 0 some_bytes 1 at 2 body_at 3 body_end 4 behind -/
abbrev s_whole_part : Stmt := top 23
abbrev N_whole_part : List Str := ["some_bytes", "at", "body_at", "body_end", "behind"]
theorem sc_whole_part : FnScope N_whole_part ["some_bytes", "at"] (defScope s_whole_part) := ⟨rfl, rfl, rfl, by decide +kernel, rfl, by decide +kernel, by decide +kernel⟩
def spWhole : Sp := fun vs H Q _ => ∃ (a : Addr) (b : NL) (i : Nat), vs = [.ref a, .int (i : Int)] ∧ H a = some (.lst (nv b)) ∧ b.length ≤ 3000 ∧
  (wholePart b i = none → ∀ H', Same H H' → Q .non H') ∧
  ∀ z, wholePart b i = some z → ∀ (H' : Hp) (p c : Addr), Same H H' → H p = none → H c = none → H' p = some (.tup [.int (z.1 : Int), .ref c, .int (z.2.2 : Int)]) → H' c = some (.lst (nv z.2.1)) → Q (.ref p) H'
theorem ok_whole_part {f : Addr} {fd : FuncData} (T : Txt K mg) (C_two_bytes : Callee P w K mg base 1 "two_bytes" ["number"] spTwo) (C_byte_sum : Callee P w K mg base 1 "byte_sum" ["some_bytes"] spSum)
    (F : Fun K "whole_part" "whole_part" s_whole_part f fd) : FnOk P w K mg base CX0 2 f fd ["some_bytes", "at"] spWhole := by
  refine F.ok sc_whole_part (fun vs H Q E h => ?_) (fun cdv A outer s H vs Q E hr h => ?_)
  · obtain ⟨a, b, i, rfl, _⟩ := h
    rfl
  · obtain ⟨a, b, i, rfl, ha, hlen, q0, q1⟩ := h
    refine ⟨_, (pss_cons (ps_set (i := 2) sc_whole_part.nd rfl (Or.inl rfl) (pe_op op_add (pv 1) (pe_k T.c_AHEAD)))
      (pss_cons (ps_if (pt_cmpR op_gt (pv 2) (pe_callB call_len_seq (by rfl) T.b_len PySem.boot_len (pa_cons (pv 0) pa_nil)) (nomark _))
      (pss_one (ps_ret pe_non))
      pss_nil)
      (pss_cons (ps_set (i := 3) sc_whole_part.nd rfl (Or.inl rfl) (pe_op op_add (pe_op op_add (pv 2) (pe_op op_mul (pe_ix ix_list (pv 0) (pe_op op_add (pv 1) pe_int) (fun _ _ => rfl)) (pe_k T.c_BYTE_VALUES))) (pe_ix ix_list (pv 0) (pe_op op_add (pv 1) pe_int) (fun _ _ => rfl))))
      (pss_cons (ps_set (i := 4) sc_whole_part.nd rfl (Or.inl rfl) (pe_op op_add (pv 3) (pe_k T.c_BEHIND)))
      (pss_cons (ps_if (pt_cmpR op_gt (pv 4) (pe_callB call_len_seq (by rfl) T.b_len PySem.boot_len (pa_cons (pv 0) pa_nil)) (nomark _))
      (pss_one (ps_ret pe_non))
      pss_nil)
      (pss_cons (ps_if (pt_cmpR (op_neD hr.units) (pe_slice sl_list (pv 0) (po_some (pv 3)) (po_some (pv 4))) (pe_cc C_two_bytes (hr.mono (by decide)) (pa_cons (pe_cc C_byte_sum (hr.mono (by decide)) (pa_cons (pe_slice sl_list (pv 0) (po_some (pv 1)) (po_some (pv 3))) pa_nil)) pa_nil)) (nomark _))
      (pss_one (ps_ret pe_non))
      pss_nil)
      (pss_one (ps_ret (pe_tup (pa_cons (pe_ix ix_list (pv 0) (pv 1) (fun _ _ => rfl)) (pa_cons (pe_slice sl_list (pv 0) (po_some (pv 2)) (po_some (pv 3))) (pa_cons (pv 4) pa_nil)))))))))))), ?_⟩
    have hS : SqL K H a (nv b) := SqL.of ha
    refine ⟨_, rfl, _, _, rfl, rfl, ?_⟩
    refine ⟨_, rfl, _, rfl, a, nv b, rfl, .inl hS, _, _, rfl, rfl, _, rfl, ite2 (fun c => ?_) (fun c => ?_)⟩
    · have := of_decide_eq_true c
      rw [nv_len] at this
      refine q0 ?_ H (Same.refl _)
      unfold wholePart
      rw [if_pos (by omega)]
    · have hi : i + 3 ≤ b.length := by
        by_cases z : i + 3 ≤ b.length
        · exact z
        · exact absurd (decide_eq_true (by rw [nv_len]; omega)) c
      obtain ⟨k, hk⟩ : ∃ x, b[i]? = some x := ⟨_, List.getElem?_eq_getElem (by omega)⟩
      obtain ⟨x, hx⟩ : ∃ x, b[i + 1]? = some x := ⟨_, List.getElem?_eq_getElem (by omega)⟩
      obtain ⟨y, hy⟩ : ∃ x, b[i + 2]? = some x := ⟨_, List.getElem?_eq_getElem (by omega)⟩
      have gk : b.getD i 0 = k := by rw [List.getD_eq_getElem?_getD, hk]; rfl
      have gx : b.getD (i + 1) 0 = x := by rw [List.getD_eq_getElem?_getD, hx]; rfl
      have gy : b.getD (i + 2) 0 = y := by rw [List.getD_eq_getElem?_getD, hy]; rfl
      have ew : wholePart b i = if b.length < i + 3 + (x * 256 + y) + 2 then none else
          if (b.drop (i + 3 + (x * 256 + y))).take 2 = [Ie11.sumOf ((b.drop i).take (3 + (x * 256 + y))) / 256, Ie11.sumOf ((b.drop i).take (3 + (x * 256 + y))) % 256] then some (k, (b.drop (i + 3)).take (x * 256 + y), i + 3 + (x * 256 + y) + 2) else none := by
        unfold wholePart
        rw [if_neg (by omega), gk, gx, gy]
      refine ⟨_, rfl, _, rfl, _, rfl, _, _, rfl, rfl, a, nv b, _, _, rfl, rfl, hS, nv_at (i := i + 1) hx, _, _, rfl, rfl, .inr ⟨by decide, by decide⟩, _, _, rfl, rfl, _, rfl, _, rfl, _, _, rfl, rfl, a, nv b, _, _, rfl, rfl, hS, nv_at (i := i + 2) hy, _, _, rfl, rfl, ?_⟩
      generalize hn : x * 256 + y = n at ew
      have e1 : (i : Int) + 3 + (x : Int) * 256 + (y : Int) = ((i + 3 + n : Nat) : Int) := by omega
      refine ⟨_, rfl, _, _, rfl, rfl, ?_⟩
      refine ⟨_, rfl, _, rfl, a, nv b, rfl, .inl hS, _, _, rfl, rfl, _, rfl, ite2 (fun c2 => ?_) (fun c2 => ?_)⟩
      · have := of_decide_eq_true c2
        rw [nv_len] at this
        refine q0 ?_ H (Same.refl _)
        rw [ew, if_pos (by omega)]
      · have hi2 : i + 3 + n + 2 ≤ b.length := by
          by_cases z : i + 3 + n + 2 ≤ b.length
          · exact z
          · exact absurd (decide_eq_true (by rw [nv_len]; omega)) c2
        rw [if_neg (by omega)] at ew
        -- the sum that stands there, the sum that is due
        refine ⟨_, rfl, _, rfl, _, rfl, _, rfl, _, rfl, a, nv b, rfl, hS, fun u nu => ?_⟩
        have eu : cutV (nv b) (some ((i : Int) + 3 + (x : Int) * 256 + (y : Int))) (some ((i : Int) + 3 + (x : Int) * 256 + (y : Int) + 2)) = nv ((b.drop (i + 3 + n)).take 2) := by
          rw [e1, show ((i + 3 + n : Nat) : Int) + 2 = ((i + 3 + n + 2 : Nat) : Int) from rfl, cut_nv, show i + 3 + n + 2 - (i + 3 + n) = 2 by omega]
        have hu : (upd H u (.lst (cutV (nv b) (some ((i : Int) + 3 + (x : Int) * 256 + (y : Int))) (some ((i : Int) + 3 + (x : Int) * 256 + (y : Int) + 2))))) u = some (.lst (nv ((b.drop (i + 3 + n)).take 2))) := by
          rw [upd_same, eu]
        generalize hHu : upd H u (.lst (cutV (nv b) (some ((i : Int) + 3 + (x : Int) * 256 + (y : Int))) (some ((i : Int) + 3 + (x : Int) * 256 + (y : Int) + 2)))) = Hu at hu
        have s1 : Same H Hu := by
          rw [← hHu]
          exact same_upd nu
        refine ⟨_, rfl, _, rfl, _, rfl, _, rfl, _, rfl, a, nv b, rfl, SqL.of (s1 _ _ ha), fun v nw => ?_⟩
        have ev : cutV (nv b) (some (i : Int)) (some ((i : Int) + 3 + (x : Int) * 256 + (y : Int))) = nv ((b.drop i).take (3 + n)) := by
          rw [e1, cut_nv, show i + 3 + n - i = 3 + n by omega]
        have s2 := Same.trans s1 (same_upd (o := .lst (cutV (nv b) (some (i : Int)) (some ((i : Int) + 3 + (x : Int) * 256 + (y : Int))))) nw)
        have t2 : Same Hu (upd Hu v (.lst (cutV (nv b) (some (i : Int)) (some ((i : Int) + 3 + (x : Int) * 256 + (y : Int)))))) := same_upd nw
        refine ⟨v, (b.drop i).take (3 + n), rfl, by rw [upd_same, ev], Ie11.sumOf ((b.drop i).take (3 + n)), rfl, fun H5 p5 s5 np5 hp5 => ?_⟩
        generalize hsm : Ie11.sumOf ((b.drop i).take (3 + n)) = sm at ew hp5
        have s6 := Same.trans s2 s5
        refine ⟨_, _, dp_lst (s5 _ _ (t2 _ _ hu)), dp_lst hp5, dl_shaped _, dl_shaped _, _, rfl, ?_⟩
        rw [eqv_lst]
        by_cases c3 : (b.drop (i + 3 + n)).take 2 = [sm / 256, sm % 256]
        · rw [decide_eq_true c3]
          refine iteF ?_
          rw [if_pos c3] at ew
          refine ⟨_, rfl, _, rfl, a, nv b, _, _, rfl, rfl, SqL.of (s6 _ _ ha), nv_at hk, _, rfl, _, rfl, _, rfl, _, rfl, _, rfl, a, nv b, rfl, SqL.of (s6 _ _ ha), fun c4 nc4 => ?_⟩
          have ec : cutV (nv b) (some ((i : Int) + 3)) (some ((i : Int) + 3 + (x : Int) * 256 + (y : Int))) = nv ((b.drop (i + 3)).take n) := by
            rw [e1, show (i : Int) + 3 = ((i + 3 : Nat) : Int) from rfl, cut_nv, show i + 3 + n - (i + 3) = n by omega]
          have s7 := Same.trans s6 (same_upd (o := .lst (cutV (nv b) (some ((i : Int) + 3)) (some ((i : Int) + 3 + (x : Int) * 256 + (y : Int))))) nc4)
          refine ⟨_, rfl, (by show 3 ≤ sizeLine; decide), fun p np => ?_⟩
          have ncp : c4 ≠ p := ne_of_none upd_same np
          refine q1 _ ew _ p c4 (Same.trans s7 (same_upd np)) (s7.free np) (s6.free nc4) ?_ ?_
          · rw [upd_same]
            show some (HO.tup [V.int (k : Int), V.ref c4, V.int ((i : Int) + 3 + (x : Int) * 256 + (y : Int) + 2)]) = _
            rw [e1]
            rfl
          · rw [upd_ne ncp, upd_same, ec]
        · rw [decide_eq_false c3]
          refine iteT ?_
          rw [if_neg c3] at ew
          exact q0 ew _ s6
end
end Pf
end
section
set_option Elab.async false
set_option linter.all false
set_option maxRecDepth 100000
set_option maxHeartbeats 4000000
namespace Pf
open PySem PySem.Spec PyProof.Rows L2
/-! ### attributes -/
theorem lk_here {k : Str} {v : V} {r : List (Str × V)} : List.lookup k ((k, v) :: r) = some v := by
  have e : (k == k) = true := beq_self_eq_true k
  simp only [List.lookup, e]
theorem lk_past {k g : Str} {v : V} {r : List (Str × V)} (h : (k == g) = false) : List.lookup k ((g, v) :: r) = List.lookup k r := by
  simp only [List.lookup, h]
theorem put_here {f : Str} {v x : V} {r : List (Str × V)} : putF f v ((f, x) :: r) = (f, v) :: r := if_pos rfl
theorem put_past {f g : Str} {v x : V} {r : List (Str × V)} (h : ¬ g = f) : putF f v ((g, x) :: r) = (g, x) :: putF f v r := if_neg h
def layF (n c : V) : List (Str × V) := [("name", n), ("numbers", c)]
def docF (c r l o : V) : List (Str × V) := [("columns", c), ("rows", r), ("layers", l), ("others", o)]
theorem lay_name (n c : V) : (layF n c).lookup ("name" : Str) = some n := lk_here
theorem lay_numbers (n c : V) : (layF n c).lookup ("numbers" : Str) = some c := (lk_past (by decide +kernel)).trans lk_here
theorem lay_put (n c v : V) : putF "numbers" v (layF n c) = layF n v := (put_past (by decide +kernel)).trans (congrArg _ put_here)
theorem lay_new (n c : V) : putF "numbers" c (putF "name" n []) = layF n c := (put_past (by decide +kernel)).trans rfl
theorem doc_columns (c r l o : V) : (docF c r l o).lookup ("columns" : Str) = some c := lk_here
theorem doc_rows (c r l o : V) : (docF c r l o).lookup ("rows" : Str) = some r := (lk_past (by decide +kernel)).trans lk_here
theorem doc_layers (c r l o : V) : (docF c r l o).lookup ("layers" : Str) = some l := (lk_past (by decide +kernel)).trans ((lk_past (by decide +kernel)).trans lk_here)
theorem doc_others (c r l o : V) : (docF c r l o).lookup ("others" : Str) = some o := (lk_past (by decide +kernel)).trans ((lk_past (by decide +kernel)).trans ((lk_past (by decide +kernel)).trans lk_here))
theorem doc_become (c r l o : V) : (docF c r l o).lookup ("become" : Str) = none := (lk_past (by decide +kernel)).trans ((lk_past (by decide +kernel)).trans ((lk_past (by decide +kernel)).trans ((lk_past (by decide +kernel)).trans rfl)))
theorem put_columns (c r l o v : V) : putF "columns" v (docF c r l o) = docF v r l o := put_here
theorem put_rows (c r l o v : V) : putF "rows" v (docF c r l o) = docF c v l o := (put_past (by decide +kernel)).trans (congrArg _ put_here)
theorem put_layers (c r l o v : V) : putF "layers" v (docF c r l o) = docF c r v o := (put_past (by decide +kernel)).trans (congrArg _ ((put_past (by decide +kernel)).trans (congrArg _ put_here)))
theorem put_others (c r l o v : V) : putF "others" v (docF c r l o) = docF c r l v := (put_past (by decide +kernel)).trans (congrArg _ ((put_past (by decide +kernel)).trans (congrArg _ ((put_past (by decide +kernel)).trans (congrArg _ put_here)))))
theorem doc_new (c r l o : V) : putF "others" o (putF "layers" l (putF "rows" r (putF "columns" c []))) = docF c r l o := by
  have e1 : putF "rows" r (putF "columns" c []) = ([("columns", c), ("rows", r)] : List (Str × V)) := (put_past (by decide +kernel)).trans rfl
  have e2 : putF "layers" l ([("columns", c), ("rows", r)] : List (Str × V)) = ([("columns", c), ("rows", r), ("layers", l)] : List (Str × V)) := (put_past (by decide +kernel)).trans (congrArg _ ((put_past (by decide +kernel)).trans rfl))
  rw [e1, e2]
  exact (put_past (by decide +kernel)).trans (congrArg _ ((put_past (by decide +kernel)).trans (congrArg _ ((put_past (by decide +kernel)).trans rfl))))
structure Obs (K : PySem.W.Frag) (CL CD : Addr) : Prop where
  clL : Cls K CL
  clD : Cls K CD
  nName : NoAttr K CL "name"
  nNumbers : NoAttr K CL "numbers"
  nColumns : NoAttr K CD "columns"
  nRows : NoAttr K CD "rows"
  nLayers : NoAttr K CD "layers"
  nOthers : NoAttr K CD "others"
section
variable {P : Program} {w : World} {K : PySem.W.Frag} {mg : Str → Option Value} {base : Heap} {CL CD : Addr}
/-- all but one thing is as it was -/
def But (H : Hp) (p : Addr) (H' : Hp) : Prop := ∀ b o, H b = some o → b ≠ p → H' b = some o
/-- Layer_init: slots 0 self 1 name 2 numbers -/
abbrev s_Layer_init : Stmt := inClass (top 10) 0
abbrev N_Layer_init : List Str := ["self", "name", "numbers"]
theorem sc_Layer_init : FnScope N_Layer_init ["self", "name", "numbers"] (defScope s_Layer_init) := ⟨rfl, rfl, rfl, by decide +kernel, rfl, by decide +kernel, by decide +kernel⟩
def spLayInit (CL : Addr) : Sp := fun vs H Q _ => ∃ (p dx : Addr) (n c : V), vs = [.ref p, n, c] ∧ H p = some (.ins CL dx []) ∧
  ∀ H' : Hp, H' p = some (.ins CL dx (layF n c)) → But H p H' → Q .non H'
theorem ok_Layer_init {f : Addr} {fd : FuncData} (O : Obs K CL CD) (F : Fun K "__init__" "Layer.__init__" s_Layer_init f fd) : FnOk P w K mg base CX0 1 f fd ["self", "name", "numbers"] (spLayInit CL) := by
  refine F.ok sc_Layer_init (fun vs H Q E h => ?_) (fun cdv A outer s H vs Q E hr h => ?_)
  · obtain ⟨p, dx, n, c, rfl, _⟩ := h
    rfl
  · obtain ⟨p, dx, n, c, rfl, hp, q⟩ := h
    refine ⟨_, (pss_cons (ps_fld (pv 0) (pv 1) rfl)
      (pss_one (ps_fld (pv 0) (pv 2) rfl))), ?_⟩
    refine ⟨_, rfl, _, rfl, p, CL, dx, [], rfl, hp, O.clL, O.nName, (by show 0 < 1000; decide), ?_⟩
    refine ⟨_, rfl, _, rfl, p, CL, dx, _, rfl, upd_same, O.clL, O.nNumbers, (by show 1 < 1000; decide), ?_⟩
    refine q _ (Eq.trans upd_same (congrArg (fun z => some (HO.ins CL dx z)) (lay_new n c))) fun b o e hb => ?_
    rw [upd_ne hb, upd_ne hb]
    exact e
/-- Document_init: slots 0 self 1 columns 2 rows -/
abbrev s_Document_init : Stmt := inClass (top 11) 0
abbrev N_Document_init : List Str := ["self", "columns", "rows"]
theorem sc_Document_init : FnScope N_Document_init ["self", "columns", "rows"] (defScope s_Document_init) := ⟨rfl, rfl, rfl, by decide +kernel, rfl, by decide +kernel, by decide +kernel⟩
def spDocInit (CD : Addr) : Sp := fun vs H Q _ => ∃ (p dx : Addr) (c r : V), vs = [.ref p, c, r] ∧ H p = some (.ins CD dx []) ∧
  ∀ (H' : Hp) (la oa : Addr), H la = none → H oa = none → la ≠ oa → H' la = some (.lst []) → H' oa = some (.lst []) → H' p = some (.ins CD dx (docF c r (.ref la) (.ref oa))) → But H p H' → Q .non H'
theorem ok_Document_init {f : Addr} {fd : FuncData} (O : Obs K CL CD) (F : Fun K "__init__" "Document.__init__" s_Document_init f fd) : FnOk P w K mg base CX0 1 f fd ["self", "columns", "rows"] (spDocInit CD) := by
  refine F.ok sc_Document_init (fun vs H Q E h => ?_) (fun cdv A outer s H vs Q E hr h => ?_)
  · obtain ⟨p, dx, c, r, rfl, _⟩ := h
    rfl
  · obtain ⟨p, dx, c, r, rfl, hp, q⟩ := h
    refine ⟨_, (pss_cons (ps_fld (pv 0) (pv 1) rfl)
      (pss_cons (ps_fld (pv 0) (pv 2) rfl)
      (pss_cons (ps_fld (pv 0) (pe_lst pa_nil) rfl)
      (pss_one (ps_fld (pv 0) (pe_lst pa_nil) rfl))))), ?_⟩
    refine ⟨_, rfl, _, rfl, p, CD, dx, [], rfl, hp, O.clD, O.nColumns, (by show 0 < 1000; decide), ?_⟩
    refine ⟨_, rfl, _, rfl, p, CD, dx, _, rfl, upd_same, O.clD, O.nRows, (by show 1 < 1000; decide), ?_⟩
    refine ⟨Nat.zero_le _, fun la nla => ?_⟩
    have nlap : p ≠ la := ne_of_none upd_same nla
    refine ⟨_, rfl, p, CD, dx, putF "rows" r (putF "columns" c []), rfl, by rw [upd_ne nlap, upd_same], O.clD, O.nLayers, (by show 2 < 1000; decide), ?_⟩
    refine ⟨Nat.zero_le _, fun oa noa => ?_⟩
    have noap : p ≠ oa := ne_of_none upd_same noa
    have nlo : la ≠ oa := ne_of_none (by rw [upd_ne nlap.symm]; exact upd_same) noa
    refine ⟨_, rfl, p, CD, dx, putF "layers" (.ref la) (putF "rows" r (putF "columns" c [])), rfl, by rw [upd_ne noap, upd_same], O.clD, O.nOthers, (by show 3 < 1000; decide), ?_⟩
    have hpn : H p ≠ none := by rw [hp]; simp
    have fla : H la = none := by
      rw [upd_ne nlap.symm, upd_ne nlap.symm] at nla
      exact nla
    have foa : H oa = none := by
      rw [upd_ne noap.symm, upd_ne nlo.symm, upd_ne noap.symm, upd_ne noap.symm] at noa
      exact noa
    refine q _ la oa fla foa nlo ?_ ?_ (Eq.trans upd_same (congrArg (fun z => some (HO.ins CD dx z)) (doc_new c r _ _))) fun b o e hb => ?_
    · rw [upd_ne nlap.symm, upd_ne nlo, upd_ne nlap.symm, upd_same]
    · rw [upd_ne noap.symm, upd_same]
    · rw [upd_ne hb, upd_ne (ne_of_none e foa), upd_ne hb, upd_ne (ne_of_none e fla), upd_ne hb, upd_ne hb]
      exact e
/-- Document_become: slots 0 self 1 another -/
abbrev s_Document_become : Stmt := inClass (top 11) 1
abbrev N_Document_become : List Str := ["self", "another"]
theorem sc_Document_become : FnScope N_Document_become ["self", "another"] (defScope s_Document_become) := ⟨rfl, rfl, rfl, by decide +kernel, rfl, by decide +kernel, by decide +kernel⟩
def spBecome (CD : Addr) : Sp := fun vs H Q _ => ∃ (p dx e dy : Addr) (c r l o c' r' l' o' : V), vs = [.ref p, .ref e] ∧ p ≠ e ∧ H p = some (.ins CD dx (docF c r l o)) ∧ H e = some (.ins CD dy (docF c' r' l' o')) ∧
  ∀ H' : Hp, H' p = some (.ins CD dx (docF c' r' l' o')) → But H p H' → Q .non H'
theorem ok_Document_become {f : Addr} {fd : FuncData} (O : Obs K CL CD) (F : Fun K "become" "Document.become" s_Document_become f fd) : FnOk P w K mg base CX0 1 f fd ["self", "another"] (spBecome CD) := by
  refine F.ok sc_Document_become (fun vs H Q E h => ?_) (fun cdv A outer s H vs Q E hr h => ?_)
  · obtain ⟨p, dx, e, dy, c, r, l, o, c', r', l', o', rfl, _⟩ := h
    rfl
  · obtain ⟨p, dx, e, dy, c, r, l, o, c', r', l', o', rfl, ne, hp, he, q⟩ := h
    refine ⟨_, (pss_cons (ps_fld (pv 0) (pe_fld (pv 1) rfl) rfl)
      (pss_cons (ps_fld (pv 0) (pe_fld (pv 1) rfl) rfl)
      (pss_cons (ps_fld (pv 0) (pe_fld (pv 1) rfl) rfl)
      (pss_one (ps_fld (pv 0) (pe_fld (pv 1) rfl) rfl))))), ?_⟩
    refine ⟨_, rfl, e, CD, dy, _, _, rfl, he, O.clD, O.nColumns, doc_columns _ _ _ _, _, rfl, p, CD, dx, _, rfl, hp, O.clD, O.nColumns, (by show 4 < 1000; decide), ?_⟩
    rw [put_columns]
    have h1 : (upd H p (.ins CD dx (docF c' r l o))) e = some (.ins CD dy (docF c' r' l' o')) := by rw [upd_ne ne.symm]; exact he
    refine ⟨_, rfl, e, CD, dy, _, _, rfl, h1, O.clD, O.nRows, doc_rows _ _ _ _, _, rfl, p, CD, dx, _, rfl, upd_same, O.clD, O.nRows, (by show 4 < 1000; decide), ?_⟩
    rw [put_rows, upd_upd]
    have h2 : (upd H p (.ins CD dx (docF c' r' l o))) e = some (.ins CD dy (docF c' r' l' o')) := by rw [upd_ne ne.symm]; exact he
    refine ⟨_, rfl, e, CD, dy, _, _, rfl, h2, O.clD, O.nLayers, doc_layers _ _ _ _, _, rfl, p, CD, dx, _, rfl, upd_same, O.clD, O.nLayers, (by show 4 < 1000; decide), ?_⟩
    rw [put_layers, upd_upd]
    have h3 : (upd H p (.ins CD dx (docF c' r' l' o))) e = some (.ins CD dy (docF c' r' l' o')) := by rw [upd_ne ne.symm]; exact he
    refine ⟨_, rfl, e, CD, dy, _, _, rfl, h3, O.clD, O.nOthers, doc_others _ _ _ _, _, rfl, p, CD, dx, _, rfl, upd_same, O.clD, O.nOthers, (by show 4 < 1000; decide), ?_⟩
    rw [put_others, upd_upd]
    refine q _ upd_same fun b z hb nb => ?_
    rw [upd_ne nb]
    exact hb
end
end Pf
end
section
set_option Elab.async false
set_option linter.all false
set_option maxRecDepth 100000
set_option maxHeartbeats 4000000
namespace Pf
open PySem PySem.Spec PyProof.Rows L2
/-! ### a document in the heap -/
def iv (l : List Int) : List V := l.map V.int
theorem iv_ints (l : NL) : iv (Ie11.ints l) = nv l := by
  unfold iv Ie11.ints nv
  rw [List.map_map]
  rfl
theorem iv_len (l : List Int) : (iv l).length = l.length := by unfold iv; exact List.length_map _
theorem iv_app (l r : List Int) : iv (l ++ r) = iv l ++ iv r := List.map_append
structure LayAt (CL : Addr) (H : Hp) (T : Addr → Prop) (a : Addr) (l : Ie11.Layer) : Prop where
  ex : ∃ (dx n c : Addr), H a = some (.ins CL dx (layF (.ref n) (.ref c))) ∧ H n = some (.lst (nv l.name)) ∧ H c = some (.lst (nv l.cells)) ∧ T a ∧ T n ∧ T c
structure OthAt (H : Hp) (T : Addr → Prop) (a : Addr) (p : Ie11.Part) : Prop where
  ex : ∃ b : Addr, H a = some (.tup [.int (p.kind : Int), .ref b]) ∧ H b = some (.lst (nv p.body)) ∧ T a ∧ T b
structure Lays (CL : Addr) (H : Hp) (T : Addr → Prop) (as : List Addr) (ls : List Ie11.Layer) : Prop where
  len : as.length = ls.length
  at_ : ∀ (i : Nat) (a : Addr) (l : Ie11.Layer), as[i]? = some a → ls[i]? = some l → LayAt CL H T a l
structure Oths (H : Hp) (T : Addr → Prop) (bs : List Addr) (ps : List Ie11.Part) : Prop where
  len : bs.length = ps.length
  at_ : ∀ (i : Nat) (a : Addr) (p : Ie11.Part), bs[i]? = some a → ps[i]? = some p → OthAt H T a p
theorem LayAt.keep {CL : Addr} {H H' : Hp} {T T' : Addr → Prop} {a : Addr} {l : Ie11.Layer} (L : LayAt CL H T a l) (k : ∀ b o, T b → H b = some o → H' b = some o) (t : ∀ b, T b → T' b) : LayAt CL H' T' a l := by
  obtain ⟨dx, n, c, h1, h2, h3, t1, t2, t3⟩ := L.ex
  exact ⟨dx, n, c, k _ _ t1 h1, k _ _ t2 h2, k _ _ t3 h3, t _ t1, t _ t2, t _ t3⟩
theorem OthAt.keep {H H' : Hp} {T T' : Addr → Prop} {a : Addr} {p : Ie11.Part} (L : OthAt H T a p) (k : ∀ b o, T b → H b = some o → H' b = some o) (t : ∀ b, T b → T' b) : OthAt H' T' a p := by
  obtain ⟨b, h1, h2, t1, t2⟩ := L.ex
  exact ⟨b, k _ _ t1 h1, k _ _ t2 h2, t _ t1, t _ t2⟩
theorem Lays.keep {CL : Addr} {H H' : Hp} {T T' : Addr → Prop} {as : List Addr} {ls : List Ie11.Layer} (L : Lays CL H T as ls) (k : ∀ b o, T b → H b = some o → H' b = some o) (t : ∀ b, T b → T' b) : Lays CL H' T' as ls :=
  ⟨L.len, fun i a l h1 h2 => (L.at_ i a l h1 h2).keep k t⟩
theorem Oths.keep {H H' : Hp} {T T' : Addr → Prop} {as : List Addr} {ls : List Ie11.Part} (L : Oths H T as ls) (k : ∀ b o, T b → H b = some o → H' b = some o) (t : ∀ b, T b → T' b) : Oths H' T' as ls :=
  ⟨L.len, fun i a l h1 h2 => (L.at_ i a l h1 h2).keep k t⟩
theorem Lays.nil {CL : Addr} {H : Hp} {T : Addr → Prop} : Lays CL H T [] [] := ⟨rfl, fun i a l h => by simp at h⟩
theorem Oths.nil {H : Hp} {T : Addr → Prop} : Oths H T [] [] := ⟨rfl, fun i a l h => by simp at h⟩
theorem snoc_get {α : Type} {l : List α} {x y : α} {i : Nat} (h : (l ++ [x])[i]? = some y) : (l[i]? = some y) ∨ (i = l.length ∧ y = x) := by
  by_cases c : i < l.length
  · rw [List.getElem?_append_left c] at h
    exact .inl h
  · rw [List.getElem?_append_right (by omega)] at h
    have : i - l.length = 0 := by
      have := (List.getElem?_eq_some_iff.mp h).1
      simp at this
      omega
    rw [this] at h
    exact .inr ⟨by omega, (Option.some.inj h).symm⟩
theorem Lays.snoc {CL : Addr} {H : Hp} {T : Addr → Prop} {as : List Addr} {ls : List Ie11.Layer} {a : Addr} {l : Ie11.Layer} (L : Lays CL H T as ls) (h : LayAt CL H T a l) : Lays CL H T (as ++ [a]) (ls ++ [l]) := by
  refine ⟨by simp [L.len], fun i x y h1 h2 => ?_⟩
  rcases snoc_get h1 with p | ⟨p, rfl⟩
  · rcases snoc_get h2 with r | ⟨r, rfl⟩
    · exact L.at_ i x y p r
    · have := (List.getElem?_eq_some_iff.mp p).1
      have := L.len
      omega
  · rcases snoc_get h2 with r | ⟨r, rfl⟩
    · have := (List.getElem?_eq_some_iff.mp r).1
      have := L.len
      omega
    · exact h
theorem Oths.snoc {H : Hp} {T : Addr → Prop} {as : List Addr} {ls : List Ie11.Part} {a : Addr} {l : Ie11.Part} (L : Oths H T as ls) (h : OthAt H T a l) : Oths H T (as ++ [a]) (ls ++ [l]) := by
  refine ⟨by simp [L.len], fun i x y h1 h2 => ?_⟩
  rcases snoc_get h1 with p | ⟨p, rfl⟩
  · rcases snoc_get h2 with r | ⟨r, rfl⟩
    · exact L.at_ i x y p r
    · have := (List.getElem?_eq_some_iff.mp p).1
      have := L.len
      omega
  · rcases snoc_get h2 with r | ⟨r, rfl⟩
    · have := (List.getElem?_eq_some_iff.mp r).1
      have := L.len
      omega
    · exact h
theorem Lays.erase {CL : Addr} {H : Hp} {T : Addr → Prop} {as : List Addr} {ls : List Ie11.Layer} (L : Lays CL H T as ls) (i : Nat) : Lays CL H T (as.eraseIdx i) (ls.eraseIdx i) := by
  refine ⟨by rw [List.length_eraseIdx, List.length_eraseIdx, L.len], fun j x y h1 h2 => ?_⟩
  rw [List.getElem?_eraseIdx] at h1 h2
  by_cases c : j < i
  · rw [if_pos c] at h1 h2
    exact L.at_ _ _ _ h1 h2
  · rw [if_neg c] at h1 h2
    exact L.at_ _ _ _ h1 h2
/-- what belongs to a document, but its own lists and itself -/
def Tin (S : Addr → Prop) (d la oa : Addr) : Addr → Prop := fun b => S b ∧ b ≠ d ∧ b ≠ la ∧ b ≠ oa
structure DocIn (CL CD : Addr) (H : Hp) (S : Addr → Prop) (d : Addr) (x : Ie11.Doc) (dx la oa : Addr) (as bs : List Addr) : Prop where
  hd : H d = some (.ins CD dx (docF (.int (x.w : Int)) (.int (x.h : Int)) (.ref la) (.ref oa)))
  hla : H la = some (.lst (as.map V.ref))
  hoa : H oa = some (.lst (bs.map V.ref))
  ne : la ≠ oa
  sd : S d
  sla : S la
  soa : S oa
  lays : Lays CL H (Tin S d la oa) as x.layers
  nd : as.Nodup
  oths : Oths H (Tin S d la oa) bs x.others
  dom : ∀ b, S b → H b ≠ none
def DocAt (CL CD : Addr) (H : Hp) (S : Addr → Prop) (d : Addr) (x : Ie11.Doc) : Prop := ∃ (dx la oa : Addr) (as bs : List Addr), DocIn CL CD H S d x dx la oa as bs
theorem Tin.mono {S S' : Addr → Prop} {d la oa : Addr} (h : ∀ b, S b → S' b) : ∀ b, Tin S d la oa b → Tin S' d la oa b := fun b ⟨h1, h2⟩ => ⟨h b h1, h2⟩
section
variable {CL CD : Addr} {H H' : Hp} {S S' : Addr → Prop} {d : Addr} {x : Ie11.Doc} {dx la oa : Addr} {as bs : List Addr}
theorem DocIn.ndla (D : DocIn CL CD H S d x dx la oa as bs) : d ≠ la := ne_of D.hd D.hla (by intro z; cases z)
theorem DocIn.ndoa (D : DocIn CL CD H S d x dx la oa as bs) : d ≠ oa := ne_of D.hd D.hoa (by intro z; cases z)
theorem DocIn.keep (D : DocIn CL CD H S d x dx la oa as bs) (k : ∀ b o, S b → H b = some o → H' b = some o) (t : ∀ b, S b → S' b) (g : ∀ b, S' b → H' b ≠ none) : DocIn CL CD H' S' d x dx la oa as bs :=
  ⟨k _ _ D.sd D.hd, k _ _ D.sla D.hla, k _ _ D.soa D.hoa, D.ne, t _ D.sd, t _ D.sla, t _ D.soa, D.lays.keep (fun b o h => k b o h.1) (Tin.mono t), D.nd, D.oths.keep (fun b o h => k b o h.1) (Tin.mono t), g⟩
theorem dom_keep (h : ∀ b, S b → H b ≠ none) (k : ∀ b o, S b → H b = some o → H' b = some o) : ∀ b, S b → H' b ≠ none := fun b hb z => by
  cases e : H b with
  | none => exact h b hb e
  | some o =>
    rw [k b o hb e] at z
    cases z
theorem DocIn.same (D : DocIn CL CD H S d x dx la oa as bs) (k : Same H H') : DocIn CL CD H' S d x dx la oa as bs := D.keep (fun b o _ => k b o) (fun _ h => h) (dom_keep D.dom fun b o _ => k b o)
theorem DocAt.same (D : DocAt CL CD H S d x) (k : Same H H') : DocAt CL CD H' S d x := by
  obtain ⟨dx, la, oa, as, bs, D⟩ := D
  exact ⟨dx, la, oa, as, bs, D.same k⟩
theorem DocIn.addLayer {a : Addr} {l : Ie11.Layer} (D : DocIn CL CD H S d x dx la oa as bs) (k : ∀ b o, S b → b ≠ la → H b = some o → H' b = some o) (t : ∀ b, S b → S' b) (hl : H' la = some (.lst ((as ++ [a]).map V.ref))) (L : LayAt CL H' (Tin S' d la oa) a l) (na : a ∉ as) (g : ∀ b, S' b → H' b ≠ none) :
    DocIn CL CD H' S' d { x with layers := x.layers ++ [l] } dx la oa (as ++ [a]) bs :=
  ⟨k _ _ D.sd D.ndla D.hd, hl, k _ _ D.soa D.ne.symm D.hoa, D.ne, t _ D.sd, t _ D.sla, t _ D.soa, (D.lays.keep (fun b o h => k b o h.1 h.2.2.1) (Tin.mono t)).snoc L,
    List.nodup_append.mpr ⟨D.nd, by simp, fun u hu v hv e => by
      have : v = a := by simpa using hv
      subst this e
      exact na hu⟩, D.oths.keep (fun b o h => k b o h.1 h.2.2.1) (Tin.mono t), g⟩
theorem DocIn.addOther {a : Addr} {p : Ie11.Part} (D : DocIn CL CD H S d x dx la oa as bs) (k : ∀ b o, S b → b ≠ oa → H b = some o → H' b = some o) (t : ∀ b, S b → S' b) (hl : H' oa = some (.lst ((bs ++ [a]).map V.ref))) (L : OthAt H' (Tin S' d la oa) a p) (g : ∀ b, S' b → H' b ≠ none) :
    DocIn CL CD H' S' d { x with others := x.others ++ [p] } dx la oa as (bs ++ [a]) :=
  ⟨k _ _ D.sd D.ndoa D.hd, k _ _ D.sla D.ne D.hla, hl, D.ne, t _ D.sd, t _ D.sla, t _ D.soa, D.lays.keep (fun b o h => k b o h.1 h.2.2.2) (Tin.mono t), D.nd, (D.oths.keep (fun b o h => k b o h.1 h.2.2.2) (Tin.mono t)).snoc L, g⟩
theorem DocIn.dropLayer {i : Nat} (D : DocIn CL CD H S d x dx la oa as bs) (k : ∀ b o, S b → b ≠ la → H b = some o → H' b = some o) (hl : H' la = some (.lst ((as.eraseIdx i).map V.ref))) (g : ∀ b, S b → H' b ≠ none) :
    DocIn CL CD H' S d { x with layers := x.layers.eraseIdx i } dx la oa (as.eraseIdx i) bs :=
  ⟨k _ _ D.sd D.ndla D.hd, hl, k _ _ D.soa D.ne.symm D.hoa, D.ne, D.sd, D.sla, D.soa, (D.lays.keep (fun b o h => k b o h.1 h.2.2.1) (fun _ h => h)).erase i, D.nd.sublist (List.eraseIdx_sublist ..), D.oths.keep (fun b o h => k b o h.1 h.2.2.1) (fun _ h => h), g⟩
/-- a layer's object is none of the document's other things -/
theorem DocIn.layer_ne (D : DocIn CL CD H S d x dx la oa as bs) {a dy : Addr} {n c : V} (h : H a = some (.ins CL dy (layF n c))) : a ≠ d ∧ a ≠ la ∧ a ≠ oa := by
  refine ⟨ne_of h D.hd (fun z => ?_), ne_of h D.hla (by intro z; cases z), ne_of h D.hoa (by intro z; cases z)⟩
  injection z with z1 z2 z3
  have := congrArg List.length z3
  simp [layF, docF] at this
theorem DocIn.setCells {i : Nat} {a dy n c' : Addr} {l : Ie11.Layer} {r : NL} (D : DocIn CL CD H S d x dx la oa as bs) (ha : as[i]? = some a) (hl : x.layers[i]? = some l) (k : ∀ b o, S b → b ≠ a → H b = some o → H' b = some o) (t : ∀ b, S b → S' b)
    (h0 : ∃ c : V, H a = some (.ins CL dy (layF (.ref n) c))) (hn : H n = some (.lst (nv l.name))) (tn : Tin S d la oa n) (tc : Tin S' d la oa c') (hc : H' c' = some (.lst (nv r))) (h1 : H' a = some (.ins CL dy (layF (.ref n) (.ref c')))) (ta : Tin S d la oa a) (g : ∀ b, S' b → H' b ≠ none) :
    DocIn CL CD H' S' d { x with layers := x.layers.set i { l with cells := r } } dx la oa as bs := by
  obtain ⟨c0, h0⟩ := h0
  obtain ⟨n1, n2, n3⟩ := D.layer_ne h0
  refine ⟨k _ _ D.sd n1.symm D.hd, k _ _ D.sla n2.symm D.hla, k _ _ D.soa n3.symm D.hoa, D.ne, t _ D.sd, t _ D.sla, t _ D.soa, ⟨by simp [D.lays.len], fun j u y hu hy => ?_⟩, D.nd, ⟨D.oths.len, fun j u p hu hp => ?_⟩, g⟩
  · by_cases e : j = i
    · subst e
      have eu : u = a := Option.some.inj (hu.symm.trans ha)
      subst eu
      have hi : j < x.layers.length := (List.getElem?_eq_some_iff.mp hl).1
      rw [List.getElem?_set_self hi] at hy
      have ey := Option.some.inj hy
      subst ey
      exact ⟨dy, n, c', h1, k _ _ tn.1 (ne_of hn h0 (by intro z; cases z)) hn, hc, Tin.mono t _ ta, Tin.mono t _ tn, tc⟩
    · rw [List.getElem?_set_ne (fun q => e q.symm)] at hy
      obtain ⟨dz, n', c'', g1, g2, g3, t1, t2, t3⟩ := (D.lays.at_ j u y hu hy).ex
      have nu : u ≠ a := fun q => e (nd_ix D.nd hu (by rw [q]; exact ha))
      exact ⟨dz, n', c'', k _ _ t1.1 nu g1, k _ _ t2.1 (ne_of g2 h0 (by intro z; cases z)) g2, k _ _ t3.1 (ne_of g3 h0 (by intro z; cases z)) g3, Tin.mono t _ t1, Tin.mono t _ t2, Tin.mono t _ t3⟩
  · obtain ⟨b, g1, g2, t1, t2⟩ := (D.oths.at_ j u p hu hp).ex
    exact ⟨b, k _ _ t1.1 (ne_of g1 h0 (by intro z; cases z)) g1, k _ _ t2.1 (ne_of g2 h0 (by intro z; cases z)) g2, Tin.mono t _ t1, Tin.mono t _ t2⟩
end
/-! ### a document as it may be -/
structure Wf (x : Ie11.Doc) : Prop where
  w1 : 1 ≤ x.w
  w8 : x.w ≤ 8
  h1 : 1 ≤ x.h
  h8 : x.h ≤ 8
  nl : x.layers.length ≤ 6
  no : x.others.length ≤ 6
  lay : ∀ l ∈ x.layers, l.name.length ≤ 12 ∧ l.cells.length = x.w * x.h ∧ B8 l.cells
  oth : ∀ p ∈ x.others, p.body.length ≤ 3000
theorem Wf.page {w h : Nat} (w1 : 1 ≤ w) (w8 : w ≤ 8) (h1 : 1 ≤ h) (h8 : h ≤ 8) : Wf ⟨w, h, [], []⟩ := ⟨w1, w8, h1, h8, by simp, by simp, fun l h => by simp at h, fun p h => by simp at h⟩
theorem Wf.addLayer {x : Ie11.Doc} (W : Wf x) {l : Ie11.Layer} (h6 : ¬ 6 ≤ x.layers.length) (h : l.name.length ≤ 12 ∧ l.cells.length = x.w * x.h ∧ B8 l.cells) : Wf { x with layers := x.layers ++ [l] } :=
  ⟨W.w1, W.w8, W.h1, W.h8, by simp; omega, W.no, fun y hy => by
    rcases List.mem_append.mp hy with q | q
    · exact W.lay y q
    · have : y = l := by simpa using q
      rw [this]
      exact h, W.oth⟩
theorem Wf.addOther {x : Ie11.Doc} (W : Wf x) {p : Ie11.Part} (h6 : ¬ 6 ≤ x.others.length) (h : p.body.length ≤ 3000) : Wf { x with others := x.others ++ [p] } :=
  ⟨W.w1, W.w8, W.h1, W.h8, W.nl, by simp; omega, W.lay, fun y hy => by
    rcases List.mem_append.mp hy with q | q
    · exact W.oth y q
    · have : y = p := by simpa using q
      rw [this]
      exact h⟩
theorem Wf.dropLayer {x : Ie11.Doc} (W : Wf x) (i : Nat) : Wf { x with layers := x.layers.eraseIdx i } :=
  ⟨W.w1, W.w8, W.h1, W.h8, by have := (List.eraseIdx_sublist x.layers i).length_le; have := W.nl; simp only; omega, W.no, fun y hy => W.lay y (List.mem_of_mem_eraseIdx hy), W.oth⟩
theorem Wf.setCells {x : Ie11.Doc} (W : Wf x) {i : Nat} {l : Ie11.Layer} {r : NL} (hl : x.layers[i]? = some l) (h : r.length = x.w * x.h) (h8 : B8 r) : Wf { x with layers := x.layers.set i { l with cells := r } } :=
  ⟨W.w1, W.w8, W.h1, W.h8, by simp only [List.length_set]; exact W.nl, W.no, fun y hy => by
    rcases List.mem_or_eq_of_mem_set hy with q | q
    · exact W.lay y q
    · rw [q]
      exact ⟨(W.lay l (List.mem_of_getElem? hl)).1, h, h8⟩, W.oth⟩
/-! ### calls on a document -/
def Keeps (H : Hp) (S : Addr → Prop) (H' : Hp) : Prop := ∀ b o, H b = some o → ¬ S b → H' b = some o
def Grow (H : Hp) (S R S' : Addr → Prop) : Prop := ∀ b, S' b → S b ∨ R b ∨ H b = none
/-- the call c is answered, by a new list; nothing but the document's own is changed; it takes over nothing but R and new things -/
def Done (CL CD : Addr) (H : Hp) (S R : Addr → Prop) (d : Addr) (x : Ie11.Doc) (c : Ie11.Call) (Q : VK) : Prop := ∀ (H' : Hp) (S' : Addr → Prop) (p : Addr), DocAt CL CD H' S' d (Ie11.step x c).1 → Wf (Ie11.step x c).1 → Keeps H S H' → Grow H S R S' →
  H' p = some (.lst (iv (Ie11.step x c).2)) → H p = none → ¬ S' p → Q (.ref p) H'
/-- the old ones, what was handed over, what is new since H and stands in Hm -/
def Sx (H : Hp) (S R : Addr → Prop) (Hm : Hp) : Addr → Prop := fun b => S b ∨ R b ∨ (H b = none ∧ Hm b ≠ none)
theorem Sx.grow (H : Hp) (S R : Addr → Prop) (Hm : Hp) : Grow H S R (Sx H S R Hm) := fun _ h => by
  rcases h with h | h | h
  · exact .inl h
  · exact .inr (.inl h)
  · exact .inr (.inr h.1)
theorem Sx.old {H : Hp} {S R : Addr → Prop} {Hm : Hp} : ∀ b, S b → Sx H S R Hm b := fun _ h => .inl h
theorem Sx.new {H : Hp} {S R : Addr → Prop} {Hm : Hp} {b : Addr} {o : HO} (h : H b = none) (h2 : Hm b = some o) : Sx H S R Hm b := .inr (.inr ⟨h, by rw [h2]; simp⟩)
theorem Sx.dom {H : Hp} {S R : Addr → Prop} {Hm : Hp} (h : ∀ b, S b → H b ≠ none) (hR : ∀ b, R b → H b ≠ none) (g : ∀ b, H b ≠ none → Hm b ≠ none) : ∀ b, Sx H S R Hm b → Hm b ≠ none := fun b hb => by
  rcases hb with q | q | q
  · exact g b (h b q)
  · exact g b (hR b q)
  · exact q.2
theorem Sx.not {H : Hp} {S R : Addr → Prop} {Hm : Hp} {b : Addr} (h : ∀ b, S b → H b ≠ none) (hR : ∀ b, R b → H b ≠ none) (h1 : H b = none) (h2 : Hm b = none) : ¬ Sx H S R Hm b := fun hb => by
  rcases hb with q | q | q
  · exact h b q h1
  · exact hR b q h1
  · exact q.2 h2
theorem some_ne {H : Hp} {b : Addr} {o : HO} (h : H b = some o) : H b ≠ none := by rw [h]; simp
theorem same_grows {H H' : Hp} (s : Same H H') : ∀ b, H b ≠ none → H' b ≠ none := fun b h z => h (s.free z)
theorem grows_upd {H H1 : Hp} {p : Addr} {o : HO} (g : ∀ b, H b ≠ none → H1 b ≠ none) : ∀ b, H b ≠ none → upd H1 p o b ≠ none := fun b h => by
  by_cases e : b = p
  · rw [e, upd_same]
    simp
  · rw [upd_ne e]
    exact g b h
theorem Keeps.of_same {H H' : Hp} {S : Addr → Prop} (s : Same H H') : Keeps H S H' := fun b o h _ => s b o h
def no1 : Addr → Prop := fun _ => False
def the (a : Addr) : Addr → Prop := fun b => b = a
theorem the_ne {H : Hp} {a : Addr} {o : HO} (h : H a = some o) : ∀ b, the a b → H b ≠ none := fun b hb => by
  rw [show b = a from hb, h]
  simp
end Pf
end
section
set_option Elab.async false
set_option linter.all false
set_option maxRecDepth 100000
set_option maxHeartbeats 4000000
namespace Pf
open PySem PySem.Spec PyProof.Rows L2
/-- the tuples that the top has written -/
structure Tups (K : PySem.W.Frag) (mg : Str → Option Value) (a_BEGINNING : Addr) : Prop where
  t_BEGINNING : mg "BEGINNING" = some (.ref a_BEGINNING)
  q_BEGINNING : ∀ H, SqT K H a_BEGINNING (nv [80, 73])
section
variable {P : Program} {w : World} {K : PySem.W.Frag} {mg : Str → Option Value} {base : Heap} {CL CD a_BEGINNING : Addr}
/-! ### layer_body -/
/-- layer_body: slots 0 layer 1 columns -/
abbrev s_layer_body : Stmt := top 57
abbrev N_layer_body : List Str := ["layer", "columns"]
theorem sc_layer_body : FnScope N_layer_body ["layer", "columns"] (defScope s_layer_body) := ⟨rfl, rfl, rfl, by decide +kernel, rfl, by decide +kernel, by decide +kernel⟩
def lbody (w h : Nat) (l : Ie11.Layer) : NL := l.name.length :: (l.name ++ rowsTo w l.cells h)
def spLayBody (CL : Addr) : Sp := fun vs H Q _ => ∃ (a dx n c : Addr) (w h : Nat) (l : Ie11.Layer), vs = [.ref a, .int (w : Int)] ∧ H a = some (.ins CL dx (layF (.ref n) (.ref c))) ∧ H n = some (.lst (nv l.name)) ∧ H c = some (.lst (nv l.cells)) ∧
  l.name.length ≤ 12 ∧ l.cells.length = w * h ∧ B8 l.cells ∧ 1 ≤ w ∧ w ≤ 8 ∧ 1 ≤ h ∧ h ≤ 8 ∧
  ∀ H' p, Same H H' → H p = none → H' p = some (.lst (nv (lbody w h l))) → Q (.ref p) H'
theorem ok_layer_body {f : Addr} {fd : FuncData} (T : Txt K mg) (O : Obs K CL CD) (C_written_rows : Callee P w K mg base 6 "written_rows" ["numbers", "columns"] spWrittenRows)
    (F : Fun K "layer_body" "layer_body" s_layer_body f fd) : FnOk P w K mg base CX0 7 f fd ["layer", "columns"] (spLayBody CL) := by
  refine F.ok sc_layer_body (fun vs H Q E h => ?_) (fun cdv A outer s H vs Q E hr h => ?_)
  · obtain ⟨a, dx, n, c, w, h, l, rfl, _⟩ := h
    rfl
  · obtain ⟨a, dx, n, c, w, h, l, rfl, ha, hn, hc, l12, hcl, h8, hw, hw8, hh, hh8, q⟩ := h
    refine ⟨_, (pss_one (ps_ret (pe_op op_cat (pe_op op_cat (pe_lst (pa_cons (pe_callB call_len_seq (by rfl) T.b_len PySem.boot_len (pa_cons (pe_fld (pv 0) rfl) pa_nil)) pa_nil)) (pe_fld (pv 0) rfl)) (pe_cc C_written_rows (hr.mono (by decide)) (pa_cons (pe_fld (pv 0) rfl) (pa_cons (pv 1) pa_nil)))))), ?_⟩
    have rt := rowsTo_len hcl h (Nat.le_refl _)
    have rt2 : h * (2 * w + 1) ≤ 8 * 17 := Nat.mul_le_mul (by omega) (by omega)
    refine ⟨_, rfl, a, CL, dx, _, _, rfl, ha, O.clL, O.nName, lay_name _ _, n, _, rfl, .inl (SqL.of hn), (by show 1 ≤ sizeLine; decide), fun z nz => ?_⟩
    have s1 : Same H (upd H z (.lst [.int ((nv l.name).length : Int)])) := same_upd nz
    refine ⟨_, rfl, a, CL, dx, _, _, rfl, s1 _ _ ha, O.clL, O.nName, lay_name _ _, z, n, _, _, rfl, rfl, upd_same, s1 _ _ hn, small (by rw [nv_len]; simp; omega), fun u nu => ?_⟩
    have s2 := Same.trans s1 (same_upd (o := .lst ([.int ((nv l.name).length : Int)] ++ nv l.name)) nu)
    refine ⟨_, rfl, a, CL, dx, _, _, rfl, s2 _ _ ha, O.clL, O.nNumbers, lay_numbers _ _, _, rfl, c, l.cells, w, h, rfl, s2 _ _ hc, hcl, hw, hw8, hh, hh8, h8, fun H3 p3 s3 np3 hp3 => ?_⟩
    refine ⟨u, p3, _, _, rfl, rfl, s3 _ _ upd_same, hp3, small (by rw [List.length_append, nv_len, nv_len]; simp; omega), fun r nr => ?_⟩
    refine q _ r (Same.trans (Same.trans s2 s3) (same_upd nr)) ((Same.trans s2 s3).free nr) ?_
    rw [upd_same, nv_len]
    unfold lbody
    rw [nv_cons, nv_app]
    rfl
theorem lbody_eq (x : Ie11.Doc) (l : Ie11.Layer) : lbody x.w x.h l = Ie11.layerBody x l := rfl
theorem lbody_len {w h : Nat} {l : Ie11.Layer} (l12 : l.name.length ≤ 12) (hcl : l.cells.length = w * h) (hw8 : w ≤ 8) (hh8 : h ≤ 8) : (lbody w h l).length ≤ 149 := by
  have rt := rowsTo_len hcl h (Nat.le_refl _)
  have rt2 : h * (2 * w + 1) ≤ 8 * 17 := Nat.mul_le_mul (by omega) (by omega)
  unfold lbody
  rw [List.length_cons, List.length_append]
  omega
/-! ### written_file -/
/-- written_file: slots 0 document 1 written 2 layer 3 kind 4 body -/
abbrev s_written_file : Stmt := top 58
abbrev N_written_file : List Str := ["document", "written", "layer", "kind", "body"]
theorem sc_written_file : FnScope N_written_file ["document"] (defScope s_written_file) := ⟨rfl, rfl, rfl, by decide +kernel, rfl, by decide +kernel, by decide +kernel⟩
def headB (x : Ie11.Doc) : NL := [80, 73] ++ (⟨1, [x.w, x.h]⟩ : Ie11.Part).bytes
def laysB (x : Ie11.Doc) (ls : List Ie11.Layer) : NL := ls.flatMap fun l => (⟨2, Ie11.layerBody x l⟩ : Ie11.Part).bytes
def othsB (ps : List Ie11.Part) : NL := ps.flatMap Ie11.Part.bytes
theorem write_eq (x : Ie11.Doc) : Ie11.write x = headB x ++ laysB x x.layers ++ othsB x.others ++ (⟨0, []⟩ : Ie11.Part).bytes := by
  unfold Ie11.write headB laysB othsB
  simp only [List.append_assoc]
theorem laysB_len {x : Ie11.Doc} : ∀ (ls : List Ie11.Layer), (∀ l ∈ ls, (Ie11.layerBody x l).length ≤ 149) → (laysB x ls).length ≤ ls.length * 154
  | [], _ => by simp [laysB]
  | l :: ls, h => by
    have a := laysB_len ls fun y hy => h y (List.mem_cons_of_mem _ hy)
    have b := h l (List.mem_cons_self ..)
    unfold laysB at a ⊢
    rw [List.flatMap_cons, List.length_append, part_len, List.length_cons]
    omega
theorem othsB_len : ∀ (ls : List Ie11.Part), (∀ l ∈ ls, l.body.length ≤ 3000) → (othsB ls).length ≤ ls.length * 3005
  | [], _ => by simp [othsB]
  | l :: ls, h => by
    have a := othsB_len ls fun y hy => h y (List.mem_cons_of_mem _ hy)
    have b := h l (List.mem_cons_self ..)
    unfold othsB at a ⊢
    have e : l.bytes.length = l.body.length + 5 := part_len (k := l.kind) (body := l.body)
    rw [List.flatMap_cons, List.length_append, e, List.length_cons]
    omega
theorem refs_of {as : List Addr} {i : Nat} {v : V} (h : (as.map V.ref)[i]? = some v) : ∃ a, as[i]? = some a ∧ v = .ref a := by
  rw [List.getElem?_map] at h
  cases e : as[i]? with
  | none => rw [e] at h; cases h
  | some a => rw [e] at h; exact ⟨a, rfl, (Option.some.inj h).symm⟩
def spWriteFile (CL CD : Addr) : Sp := fun vs H Q _ => ∃ (d : Addr) (x : Ie11.Doc) (S : Addr → Prop), vs = [.ref d] ∧ DocAt CL CD H S d x ∧ Wf x ∧
  ∀ H' p, Same H H' → H p = none → H' p = some (.lst (nv (Ie11.write x))) → Q (.ref p) H'
theorem ok_written_file {f : Addr} {fd : FuncData} (T : Txt K mg) (O : Obs K CL CD) (U : Tups K mg a_BEGINNING) (C_written_part : Callee P w K mg base 2 "written_part" ["kind", "body"] spPart) (C_layer_body : Callee P w K mg base 7 "layer_body" ["layer", "columns"] (spLayBody CL))
    (F : Fun K "written_file" "written_file" s_written_file f fd) : FnOk P w K mg base CX0 8 f fd ["document"] (spWriteFile CL CD) := by
  refine F.ok sc_written_file (fun vs H Q E h => ?_) (fun cdv A outer s H vs Q E hr h => ?_)
  · obtain ⟨d, x, S, rfl, _⟩ := h
    rfl
  · obtain ⟨d, x, S, rfl, ⟨dx, la, oa, as, bs, D⟩, W, q⟩ := h
    refine ⟨_, (pss_cons (ps_set (i := 1) sc_written_file.nd rfl (Or.inl rfl) (pe_callTy call_list_of (by rfl) T.b_list (by decide +kernel) (pa_cons (pe_glob (v := .ref a_BEGINNING) rfl U.t_BEGINNING rfl) pa_nil)))
      (pss_cons (ps_expr (pe_bm PySem.F.plainAttrs_list PySem.F.slot_list_extend PySem.F.type_list_extend mt_extend (pv 1) (pa_cons (pe_cc C_written_part (hr.mono (by decide)) (pa_cons (pe_k T.c_PAGE_KIND) (pa_cons (pe_lst (pa_cons (pe_fld (pv 0) rfl) (pa_cons (pe_fld (pv 0) rfl) pa_nil))) pa_nil))) pa_nil)))
      (pss_cons (ps_for PassesOwn.never rfl (pi_list (pe_fld (pv 0) rfl)) (pg_name (i := 2) sc_written_file.nd rfl (Or.inl rfl))
      (pss_one (ps_expr (pe_bm PySem.F.plainAttrs_list PySem.F.slot_list_extend PySem.F.type_list_extend mt_extend (pv 1) (pa_cons (pe_cc C_written_part (hr.mono (by decide)) (pa_cons (pe_k T.c_LAYER_KIND) (pa_cons (pe_cc C_layer_body (hr.mono (by decide)) (pa_cons (pv 2) (pa_cons (pe_fld (pv 0) rfl) pa_nil))) pa_nil))) pa_nil)))))
      (pss_cons (ps_for PassesOwn.never rfl (pi_list (pe_fld (pv 0) rfl)) (pg_tup (by rfl) (pgs_cons (pg_name (i := 3) sc_written_file.nd rfl (Or.inl rfl)) (pgs_cons (pg_name (i := 4) sc_written_file.nd rfl (Or.inl rfl)) pgs_nil)))
      (pss_one (ps_expr (pe_bm PySem.F.plainAttrs_list PySem.F.slot_list_extend PySem.F.type_list_extend mt_extend (pv 1) (pa_cons (pe_cc C_written_part (hr.mono (by decide)) (pa_cons (pv 3) (pa_cons (pv 4) pa_nil))) pa_nil)))))
      (pss_cons (ps_expr (pe_bm PySem.F.plainAttrs_list PySem.F.slot_list_extend PySem.F.type_list_extend mt_extend (pv 1) (pa_cons (pe_cc C_written_part (hr.mono (by decide)) (pa_cons (pe_k T.c_END_KIND) (pa_cons (pe_lst pa_nil) pa_nil))) pa_nil)))
      (pss_one (ps_ret (pv 1)))))))), ?_⟩
    have bl : ∀ l ∈ x.layers, (Ie11.layerBody x l).length ≤ 149 := fun l hl => by
      have := W.lay l hl
      rw [← lbody_eq]
      exact lbody_len this.1 this.2.1 W.w8 W.h8
    have wl : ∀ i, (laysB x (x.layers.take i)).length ≤ 6 * 154 := fun i => by
      have a := laysB_len (x := x) (x.layers.take i) fun l hl => bl l (List.mem_of_mem_take hl)
      have b : (x.layers.take i).length ≤ 6 := by rw [List.length_take]; have := W.nl; omega
      omega
    have wo : ∀ i, (othsB (x.others.take i)).length ≤ 6 * 3005 := fun i => by
      have a := othsB_len (x.others.take i) fun l hl => W.oth l (List.mem_of_mem_take hl)
      have b : (x.others.take i).length ≤ 6 := by rw [List.length_take]; have := W.no; omega
      omega
    have hh : (headB x).length = 9 := by
      unfold headB
      rw [List.length_append, part_len]
      rfl
    -- written = list(BEGINNING)
    refine ⟨a_BEGINNING, _, rfl, .inr (U.q_BEGINNING H), fun o no => ?_⟩
    have s1 : Same H (upd H o (.lst (nv [80, 73]))) := same_upd no
    -- the page's part
    refine ⟨_, rfl, .inl ⟨rfl, _, SqL.of upd_same⟩, _, rfl, d, CD, dx, _, _, rfl, s1 _ _ D.hd, O.clD, O.nColumns, doc_columns _ _ _ _, _, rfl, d, CD, dx, _, _, rfl, s1 _ _ D.hd, O.clD, O.nRows, doc_rows _ _ _ _, (by show 2 ≤ sizeLine; decide), fun z nz => ?_⟩
    have s2 := Same.trans s1 (same_upd (o := .lst [.int (x.w : Int), .int (x.h : Int)]) nz)
    have ho2 : (upd (upd H o (.lst (nv [80, 73]))) z (.lst [.int (x.w : Int), .int (x.h : Int)])) o = some (.lst (nv [80, 73])) := same_upd nz _ _ upd_same
    refine ⟨z, 1, [x.w, x.h], rfl, upd_same, by simp, fun H3 p3 s3 np3 hp3 => ?_⟩
    refine ⟨o, p3, _, _, rfl, rfl, s3 _ _ ho2, hp3, small (by rw [nv_len, nv_len, part_len]; simp), ?_⟩
    have s4 := same_set (o := .lst (nv [80, 73] ++ nv (⟨1, [x.w, x.h]⟩ : Ie11.Part).bytes)) (Same.trans s2 s3) no
    have ho4 : (upd H3 o (.lst (nv [80, 73] ++ nv (⟨1, [x.w, x.h]⟩ : Ie11.Part).bytes))) o = some (.lst (nv (headB x))) := by
      rw [upd_same]
      unfold headB
      rw [nv_app]
    -- the layers
    refine ⟨_, rfl, d, CD, dx, _, _, rfl, s4 _ _ D.hd, O.clD, O.nLayers, doc_layers _ _ _ _, la, rfl, ⟨_, SqL.of (s4 _ _ D.hla)⟩, for_list (K := K) (a := la) (xs := as.map V.ref) (fun i σ H' => Same H H' ∧ ∃ v2 : Option V, σ = [some (.ref d), some (.ref o), v2, none, none] ∧ H' o = some (.lst (nv (headB x ++ laysB x (x.layers.take i)))))
      ⟨s4, none, rfl, ?_⟩ (fun i σ H' _ ⟨s5, _⟩ => SqL.of (s5 _ _ D.hla)) ?_ ?_⟩
    · rw [ho4]
      simp [laysB]
    · rintro i v σ H' hv ⟨s5, v2, rfl, ho⟩
      obtain ⟨a, ha, rfl⟩ := refs_of hv
      have hi : i < x.layers.length := by rw [← D.lays.len]; exact (List.getElem?_eq_some_iff.mp ha).1
      obtain ⟨l, hl⟩ : ∃ l, x.layers[i]? = some l := ⟨_, List.getElem?_eq_getElem hi⟩
      obtain ⟨dy, n, c, g1, g2, g3, _⟩ := (D.lays.at_ i a l ha hl).ex
      have wl2 := W.lay l (List.mem_of_getElem? hl)
      refine ⟨_, rfl, .inl ⟨rfl, _, SqL.of ho⟩, _, rfl, _, rfl, d, CD, dx, _, _, rfl, s5 _ _ D.hd, O.clD, O.nColumns, doc_columns _ _ _ _, a, dy, n, c, x.w, x.h, l, rfl, s5 _ _ g1, s5 _ _ g2, s5 _ _ g3, wl2.1, wl2.2.1, wl2.2.2, W.w1, W.w8, W.h1, W.h8, fun H6 p6 s6 np6 hp6 => ?_⟩
      have b9 := bl l (List.mem_of_getElem? hl)
      refine ⟨p6, 2, _, rfl, hp6, by rw [lbody_eq]; omega, fun H7 p7 s7 np7 hp7 => ?_⟩
      refine ⟨o, p7, _, _, rfl, rfl, s7 _ _ (s6 _ _ ho), hp7, small (by rw [nv_len, nv_len, part_len, List.length_append, hh, lbody_eq]; have := wl i; omega), same_set (Same.trans s5 (Same.trans s6 s7)) no, _, rfl, ?_⟩
      rw [upd_same, ← nv_app, take_snoc hl, lbody_eq]
      unfold laysB
      rw [List.flatMap_append, ← List.append_assoc]
      simp
    · rintro σ H' ⟨s5, v2, rfl, ho⟩
      rw [List.length_map, D.lays.len, List.take_length] at ho
      -- the others
      refine ⟨_, rfl, d, CD, dx, _, _, rfl, s5 _ _ D.hd, O.clD, O.nOthers, doc_others _ _ _ _, oa, rfl, ⟨_, SqL.of (s5 _ _ D.hoa)⟩, for_list (K := K) (a := oa) (xs := bs.map V.ref) (fun i σ H' => Same H H' ∧ ∃ v3 v4 : Option V, σ = [some (.ref d), some (.ref o), v2, v3, v4] ∧ H' o = some (.lst (nv (headB x ++ laysB x x.layers ++ othsB (x.others.take i)))))
        ⟨s5, none, none, rfl, ?_⟩ (fun i σ H' _ ⟨s6, _⟩ => SqL.of (s6 _ _ D.hoa)) ?_ ?_⟩
      · rw [ho]
        simp [othsB]
      · rintro i v σ H6 hv ⟨s6, v3, v4, rfl, ho6⟩
        obtain ⟨a, ha, rfl⟩ := refs_of hv
        have hi : i < x.others.length := by rw [← D.oths.len]; exact (List.getElem?_eq_some_iff.mp ha).1
        obtain ⟨p, hp⟩ : ∃ p, x.others[i]? = some p := ⟨_, List.getElem?_eq_getElem hi⟩
        obtain ⟨b, g1, g2, _⟩ := (D.oths.at_ i a p ha hp).ex
        have wp := W.oth p (List.mem_of_getElem? hp)
        refine ⟨a, _, rfl, SqT.of (s6 _ _ g1), rfl, _, _, rfl, _, _, rfl, rfl, ?_⟩
        refine ⟨_, rfl, .inl ⟨rfl, _, SqL.of ho6⟩, _, rfl, _, rfl, b, p.kind, p.body, rfl, s6 _ _ g2, wp, fun H7 p7 s7 np7 hp7 => ?_⟩
        have w1 := wl x.layers.length
        rw [List.take_length] at w1
        refine ⟨o, p7, _, _, rfl, rfl, s7 _ _ ho6, hp7, small (by rw [nv_len, nv_len, part_len, List.length_append, List.length_append, hh]; have := wo i; omega), same_set (Same.trans s6 s7) no, _, _, rfl, ?_⟩
        rw [upd_same, ← nv_app, take_snoc hp]
        unfold othsB
        rw [List.flatMap_append, ← List.append_assoc]
        simp
      · rintro σ H6 ⟨s6, v3, v4, rfl, ho6⟩
        rw [List.length_map, D.oths.len, List.take_length] at ho6
        -- the end
        refine ⟨_, rfl, .inl ⟨rfl, _, SqL.of ho6⟩, Nat.zero_le _, fun e ne => ?_⟩
        have s7 := Same.trans s6 (same_upd (o := .lst []) ne)
        refine ⟨e, 0, [], rfl, upd_same, Nat.zero_le _, fun H8 p8 s8 np8 hp8 => ?_⟩
        have w1 := wl x.layers.length
        have w2 := wo x.others.length
        rw [List.take_length] at w1 w2
        refine ⟨o, p8, _, _, rfl, rfl, s8 _ _ (same_upd ne _ _ ho6), hp8, small (by rw [nv_len, nv_len, part_len, List.length_append, List.length_append, hh]; simp; omega), ?_⟩
        refine ⟨_, rfl, q _ o (same_set (Same.trans s7 s8) no) no ?_⟩
        rw [upd_same, ← nv_app, write_eq]
end
end Pf
end
section
set_option Elab.async false
set_option linter.all false
set_option maxRecDepth 100000
set_option maxHeartbeats 4000000
namespace Pf
open PySem PySem.Spec PyProof.Rows L2
section
variable {P : Program} {w : World} {K : PySem.W.Frag} {mg : Str → Option Value} {base : Heap} {CL CD a_BEGINNING : Addr}
theorem made_none {H : Hp} {e dy C b : Addr} (h : (upd (upd H dy (.own e)) e (.ins C dy [])) b = none) : H b = none ∧ b ≠ e ∧ b ≠ dy := by
  have n1 : b ≠ e := fun z => by
    rw [z, upd_same] at h
    cases h
  rw [upd_ne n1] at h
  have n2 : b ≠ dy := fun z => by
    rw [z, upd_same] at h
    cases h
  rw [upd_ne n2] at h
  exact ⟨h, n1, n2⟩
/-- a new page taken over -/
theorem new_page {H H3 H4 : Hp} {S R : Addr → Prop} {d : Addr} {x : Ie11.Doc} {dx la oa : Addr} {as bs : List Addr} {e dy la' oa' : Addr} {w h : Nat} (D : DocIn CL CD H S d x dx la oa as bs) (ne : H e = none) (nd : H dy = none)
    (fla : (upd (upd H dy (.own e)) e (.ins CD dy [])) la' = none) (foa : (upd (upd H dy (.own e)) e (.ins CD dy [])) oa' = none) (nlo : la' ≠ oa') (hla : H3 la' = some (.lst [])) (hoa : H3 oa' = some (.lst []))
    (but : But (upd (upd H dy (.own e)) e (.ins CD dy [])) e H3) (h4 : H4 d = some (.ins CD dx (docF (.int (w : Int)) (.int (h : Int)) (.ref la') (.ref oa')))) (but4 : But H3 d H4) (hR : ∀ b, R b → H b ≠ none) :
    DocAt CL CD H4 (Sx H S R H4) d ⟨w, h, [], []⟩ ∧ Keeps H S H4 ∧ Same H H3 := by
  have s3 : Same H H3 := Same.made ne nd but
  obtain ⟨fla, _, _⟩ := made_none fla
  obtain ⟨foa, _, _⟩ := made_none foa
  have n1 : la' ≠ d := (ne_of_none D.hd fla).symm
  have n2 : oa' ≠ d := (ne_of_none D.hd foa).symm
  have g4 : ∀ b, H b ≠ none → H4 b ≠ none := fun b hb z => by
    by_cases e : b = d
    · rw [e, h4] at z
      cases z
    · cases q : H3 b with
      | none => exact same_grows s3 b hb q
      | some o =>
        rw [but4 b o q e] at z
        cases z
  refine ⟨⟨dx, la', oa', [], [], h4, but4 _ _ hla n1, but4 _ _ hoa n2, nlo, .inl D.sd, Sx.new fla (but4 _ _ hla n1), Sx.new foa (but4 _ _ hoa n2), Lays.nil, List.nodup_nil, Oths.nil, Sx.dom D.dom hR g4⟩, fun b o hb nb => but4 b o (s3 b o hb) fun z => nb (z ▸ D.sd), s3⟩
/-- a new document, of new things alone -/
theorem fresh_doc {H H1 : Hp} {e dy la oa : Addr} {w h : Nat} (ne : H e = none) (fla : (upd (upd H dy (.own e)) e (.ins CD dy [])) la = none) (foa : (upd (upd H dy (.own e)) e (.ins CD dy [])) oa = none) (nlo : la ≠ oa) (hla : H1 la = some (.lst [])) (hoa : H1 oa = some (.lst []))
    (he : H1 e = some (.ins CD dy (docF (.int (w : Int)) (.int (h : Int)) (.ref la) (.ref oa)))) : DocAt CL CD H1 (fun c => c = e ∨ c = la ∨ c = oa) e ⟨w, h, [], []⟩ ∧ ∀ c, (c = e ∨ c = la ∨ c = oa) → H c = none := by
  obtain ⟨fla, _, _⟩ := made_none fla
  obtain ⟨foa, _, _⟩ := made_none foa
  refine ⟨⟨dy, la, oa, [], [], he, hla, hoa, nlo, .inl rfl, .inr (.inl rfl), .inr (.inr rfl), Lays.nil, List.nodup_nil, Oths.nil, fun c hc => ?_⟩, fun c hc => ?_⟩
  · rcases hc with z | z | z
    · rw [z, he]; simp
    · rw [z, hla]; simp
    · rw [z, hoa]; simp
  · rcases hc with z | z | z
    · rw [z]; exact ne
    · rw [z]; exact fla
    · rw [z]; exact foa
/-- a document takes over another's things -/
theorem become_doc {H H4 : Hp} {S Se : Addr → Prop} {d e dx la oa dy la' oa' : Addr} {x y : Ie11.Doc} {as bs as' bs' : List Addr} (D : DocIn CL CD H S d x dx la oa as bs) (E : DocIn CL CD H Se e y dy la' oa' as' bs') (nd : ¬ Se d) (h4 : H4 d = some (.ins CD dx (docF (.int (y.w : Int)) (.int (y.h : Int)) (.ref la') (.ref oa')))) (but : But H d H4) :
    DocAt CL CD H4 (fun b => S b ∨ Se b) d y := by
  have nS : ∀ {b}, Se b → b ≠ d := fun h z => nd (z ▸ h)
  have k : ∀ b o, Tin Se e la' oa' b → H b = some o → H4 b = some o := fun b o hb h => but b o h (nS hb.1)
  have t : ∀ b, Tin Se e la' oa' b → Tin (fun b => S b ∨ Se b) d la' oa' b := fun b ⟨h1, h2, h3, h5⟩ => ⟨.inr h1, nS h1, h3, h5⟩
  refine ⟨dx, la', oa', as', bs', h4, but _ _ E.hla (nS E.sla), but _ _ E.hoa (nS E.soa), E.ne, .inl D.sd, .inr E.sla, .inr E.soa, E.lays.keep k t, E.nd, E.oths.keep k t, fun b hb z => ?_⟩
  by_cases eb : b = d
  · rw [eb, h4] at z
    cases z
  · cases q : H b with
    | none =>
      rcases hb with hb | hb
      · exact D.dom b hb q
      · exact E.dom b hb q
    | some o =>
      rw [but b o q eb] at z
      cases z
theorem pageBody_two (w h : Nat) : pageBody [w, h] = if pageOk w h then some (w, h) else none := rfl
/-! ### layer_of -/
/-- layer_of: slots 0 body 1 columns 2 rows 3 rows_at 4 numbers -/
abbrev s_layer_of : Stmt := top 59
abbrev N_layer_of : List Str := ["body", "columns", "rows", "rows_at", "numbers"]
theorem sc_layer_of : FnScope N_layer_of ["body", "columns", "rows"] (defScope s_layer_of) := ⟨rfl, rfl, rfl, by decide +kernel, rfl, by decide +kernel, by decide +kernel⟩
def spLayerOf (CL : Addr) : Sp := fun vs H Q _ => ∃ (a : Addr) (b : NL) (w h : Nat), vs = [.ref a, .int (w : Int), .int (h : Int)] ∧ H a = some (.lst (nv b)) ∧ b.length ≤ 3000 ∧ B8 b ∧ 1 ≤ w ∧ w ≤ 8 ∧ 1 ≤ h ∧ h ≤ 8 ∧
  (Ie11.readLayer w h b = none → ∀ H', Same H H' → Q .non H') ∧
  ∀ l, Ie11.readLayer w h b = some l → ∀ (H' : Hp) (p dx n c : Addr), Same H H' → H p = none → H n = none → H c = none → H' p = some (.ins CL dx (layF (.ref n) (.ref c))) → H' n = some (.lst (nv l.name)) → H' c = some (.lst (nv l.cells)) → Q (.ref p) H'
theorem ok_layer_of {f : Addr} {fd : FuncData} (T : Txt K mg) (O : Obs K CL CD) (C_read_rows : Callee P w K mg base 3 "read_rows" ["body", "at", "columns", "rows"] spReadRows) (M_Layer : Maker P w K mg base 1 "Layer" CL ["self", "name", "numbers"] (spLayInit CL))
    (F : Fun K "layer_of" "layer_of" s_layer_of f fd) : FnOk P w K mg base CX0 4 f fd ["body", "columns", "rows"] (spLayerOf CL) := by
  refine F.ok sc_layer_of (fun vs H Q E h => ?_) (fun cdv A outer s H vs Q E hr h => ?_)
  · obtain ⟨a, b, w, h, rfl, _⟩ := h
    rfl
  · obtain ⟨a, b, w, h, rfl, ha, hlen, h8, hw, hw8, hh, hh8, q0, q1⟩ := h
    refine ⟨_, (pss_cons (ps_if (PW.pt (pw_or (pt_cmpR (op_eqD hr.units) (pv 0) (pe_lst pa_nil) (nomark _)) (pw_or1 (pt_cmpR op_gt (pe_ix ix_list (pv 0) pe_int (fun _ _ => rfl)) (pe_k T.c_MOST_NAME) (nomark _)))))
      (pss_one (ps_ret pe_non))
      pss_nil)
      (pss_cons (ps_set (i := 3) sc_layer_of.nd rfl (Or.inl rfl) (pe_op op_add pe_int (pe_ix ix_list (pv 0) pe_int (fun _ _ => rfl))))
      (pss_cons (ps_set (i := 4) sc_layer_of.nd rfl (Or.inl rfl) (pe_cc C_read_rows (hr.mono (by decide)) (pa_cons (pv 0) (pa_cons (pv 3) (pa_cons (pv 1) (pa_cons (pv 2) pa_nil))))))
      (pss_cons (ps_if (pt_cmpR op_isN (pv 4) pe_non (nomark _))
      (pss_one (ps_ret pe_non))
      pss_nil)
      (pss_one (ps_ret (pe_mkc M_Layer (hr.mono (by decide)) (pa_cons (pe_slice sl_list (pv 0) (po_some pe_int) (po_some (pv 3))) (pa_cons (pv 4) pa_nil))))))))), ?_⟩
    refine ⟨_, rfl, Nat.zero_le _, fun z nz => ?_⟩
    have s1 : Same H (upd H z (.lst [])) := same_upd nz
    have hz : (upd H z (.lst [])) z = some (.lst (nv [])) := upd_same
    refine ⟨_, _, dp_lst (s1 _ _ ha), dp_lst hz, dl_shaped _, dl_shaped _, _, rfl, ?_⟩
    rw [eqv_lst]
    cases hb : b with
    | nil =>
      rw [decide_eq_true rfl]
      refine iteT ?_
      exact q0 (by rw [hb]; rfl) _ s1
    | cons n r =>
      rw [decide_eq_false (by simp)]
      refine iteF ?_
      have h0 : b[0]? = some n := by rw [hb]; rfl
      have ha1 := s1 _ _ ha
      have h12 : ∀ {A B : Prop}, (12 < n → A) → (¬ 12 < n → B) → if decide ((12 : Int) < (n : Int)) = true then A else B := fun {A B} f g => by
        by_cases c : 12 < n
        · rw [decide_eq_true (by omega)]
          exact iteT (f c)
        · rw [decide_eq_false (by omega)]
          exact iteF (g c)
      refine ⟨_, rfl, a, nv b, _, _, rfl, rfl, SqL.of ha1, nv_at (i := 0) h0, _, _, rfl, rfl, _, rfl, h12 (fun c => ?_) (fun c => ?_)⟩
      · refine q0 ?_ _ s1
        rw [hb, Ie11.readLayer, if_pos (.inl c)]
      · refine ⟨_, rfl, a, nv b, _, _, rfl, rfl, SqL.of ha1, nv_at (i := 0) h0, _, _, rfl, rfl, ?_⟩
        have ed : b.drop (1 + n) = r.drop n := by rw [hb, Nat.add_comm, List.drop_succ_cons]
        have no_of : Ie11.readRows w h [] (b.drop (1 + n)) = none → Ie11.readLayer w h b = none := fun e => by
          rw [ed] at e
          rw [hb, Ie11.readLayer]
          split
          · rfl
          · rw [e]
            rfl
        refine ⟨_, rfl, _, rfl, _, rfl, _, rfl, a, b, 1 + n, w, h, rfl, ha1, hlen, h8, hw, hw8, hh, hh8, fun e H2 s2 => ?_, fun l e H2 p2 s2 np2 hp2 => ?_⟩
        · refine ⟨_, rfl, rfl, _, rfl, iteT ?_⟩
          exact q0 (no_of e) _ (Same.trans s1 s2)
        · have hrn : n ≤ r.length := by
            by_cases z : n ≤ r.length
            · exact z
            · rw [ed, List.drop_of_length_le (by omega)] at e
              obtain ⟨h', rfl⟩ : ∃ j, h = j + 1 := ⟨h - 1, by omega⟩
              cases e
          have er : Ie11.readLayer w h b = some ⟨r.take n, l⟩ := by
            rw [ed] at e
            rw [hb, Ie11.readLayer, if_neg (by omega), e]
            rfl
          have s12 := Same.trans s1 s2
          refine ⟨_, rfl, rfl, _, rfl, iteF ?_⟩
          refine ⟨_, rfl, _, rfl, _, rfl, _, rfl, a, nv b, rfl, SqL.of (s2 _ _ ha1), fun u nu => ?_⟩
          have eu : cutV (nv b) (some (1 : Int)) (some ((1 : Int) + (n : Int))) = nv (r.take n) := by
            rw [show (1 : Int) + (n : Int) = ((1 + n : Nat) : Int) from by omega, show (1 : Int) = ((1 : Nat) : Int) from rfl, cut_nv, hb, show 1 + n - 1 = n by omega]
            rfl
          have s3 := Same.trans s12 (same_upd (o := .lst (cutV (nv b) (some (1 : Int)) (some ((1 : Int) + (n : Int))))) nu)
          refine ⟨_, rfl, fun x dx nx ndx nex => ?_⟩
          refine ⟨x, dx, _, _, rfl, upd_same, fun H4 h4 but => ⟨rfl, ?_⟩⟩
          have s4 := Same.made nx ndx but
          refine q1 _ er H4 x dx u p2 (Same.trans s3 s4) (s3.free nx) (s12.free nu) (s1.free np2) h4 (s4 _ _ (by rw [upd_same, eu])) (s4 _ _ (same_upd nu _ _ hp2))
/-! ### page_of -/
/-- page_of: slots 0 body -/
abbrev s_page_of : Stmt := top 60
abbrev N_page_of : List Str := ["body"]
theorem sc_page_of : FnScope N_page_of ["body"] (defScope s_page_of) := ⟨rfl, rfl, rfl, by decide +kernel, rfl, by decide +kernel, by decide +kernel⟩
def spPageOf (CL CD : Addr) : Sp := fun vs H Q _ => ∃ (a : Addr) (b : NL), vs = [.ref a] ∧ H a = some (.lst (nv b)) ∧ (pageBody b = none → Q .non H) ∧
  ∀ w h, pageBody b = some (w, h) → ∀ (H' : Hp) (e : Addr) (S : Addr → Prop), Same H H' → DocAt CL CD H' S e ⟨w, h, [], []⟩ → (∀ c, S c → H c = none) → Q (.ref e) H'
theorem ok_page_of {f : Addr} {fd : FuncData} (T : Txt K mg) (C_is_page : Callee P w K mg base 1 "is_page" ["columns", "rows"] spIsPage) (M_Document : Maker P w K mg base 1 "Document" CD ["self", "columns", "rows"] (spDocInit CD))
    (F : Fun K "page_of" "page_of" s_page_of f fd) : FnOk P w K mg base CX0 3 f fd ["body"] (spPageOf CL CD) := by
  refine F.ok sc_page_of (fun vs H Q E h => ?_) (fun cdv A outer s H vs Q E hr h => ?_)
  · obtain ⟨a, b, rfl, _⟩ := h
    rfl
  · obtain ⟨a, b, rfl, ha, q0, q1⟩ := h
    refine ⟨_, (pss_cons (ps_if (PW.pt (pw_or (pt_cmpR op_ne (pe_callB call_len_seq (by rfl) T.b_len PySem.boot_len (pa_cons (pv 0) pa_nil)) pe_int (nomark _)) (pw_or1 (pt_not (pt_val (pe_cc C_is_page (hr.mono (by decide)) (pa_cons (pe_ix ix_list (pv 0) pe_int (fun _ _ => rfl)) (pa_cons (pe_ix ix_list (pv 0) pe_int (fun _ _ => rfl)) pa_nil))))))))
      (pss_one (ps_ret pe_non))
      pss_nil)
      (pss_one (ps_ret (pe_mkc M_Document (hr.mono (by decide)) (pa_cons (pe_ix ix_list (pv 0) pe_int (fun _ _ => rfl)) (pa_cons (pe_ix ix_list (pv 0) pe_int (fun _ _ => rfl)) pa_nil)))))), ?_⟩
    refine ⟨_, rfl, a, nv b, rfl, .inl (SqL.of ha), rfl, _, rfl, ite2 (fun c => ?_) (fun c => ?_)⟩
    · refine iteT (q0 ?_)
      have c1 : b.length ≠ 2 := fun z => by
        rw [nv_len, z] at c
        exact absurd c (by decide)
      unfold pageBody
      split
      · exact absurd rfl c1
      · rfl
    · have c1 : b.length = 2 := by
        by_cases z : b.length = 2
        · exact z
        · refine absurd ?_ c
          rw [nv_len]
          have : ¬ V.int (b.length : Int) = V.int 2 := fun y => z (by have := V.int.inj y; omega)
          simp [this]
      match b, c1 with
      | [w, h], _ =>
        have hS : SqL K H a (nv [w, h]) := SqL.of ha
        refine ⟨_, rfl, a, _, _, _, rfl, rfl, hS, nv_at (i := 0) (x := w) rfl, _, rfl, a, _, _, _, rfl, rfl, hS, nv_at (i := 1) (x := h) rfl, w, h, rfl, _, rfl, ?_⟩
        cases hp : pageOk w h with
        | false =>
          refine iteT (q0 ?_)
          rw [pageBody_two, hp]
          rfl
        | true =>
          refine iteF ?_
          refine ⟨_, rfl, a, _, _, _, rfl, rfl, hS, nv_at (i := 0) (x := w) rfl, _, rfl, a, _, _, _, rfl, rfl, hS, nv_at (i := 1) (x := h) rfl, fun e2 dy ne2 ndy nee => ?_⟩
          refine ⟨e2, dy, _, _, rfl, upd_same, fun H3 la' oa' fla foa nlo hla hoa he but => ⟨rfl, ?_⟩⟩
          obtain ⟨D3, f3⟩ := fresh_doc (CL := CL) ne2 fla foa nlo hla hoa he
          exact q1 w h (by rw [pageBody_two, hp]; rfl) H3 e2 _ (Same.made ne2 ndy but) D3 f3
/-! ### take_page -/
/-- take_page: slots 0 document 1 body 2 told -/
abbrev s_take_page : Stmt := top 61
abbrev N_take_page : List Str := ["document", "body", "told"]
theorem sc_take_page : FnScope N_take_page ["document", "body"] (defScope s_take_page) := ⟨rfl, rfl, rfl, by decide +kernel, rfl, by decide +kernel, by decide +kernel⟩
/-- a part is taken: v is answered, the document is x' -/
def Took (CL CD : Addr) (H : Hp) (S R : Addr → Prop) (e : Addr) (x' : Ie11.Doc) (v : V) (Q : VK) : Prop := ∀ (H' : Hp) (S' : Addr → Prop), DocAt CL CD H' S' e x' → Keeps H S H' → Grow H S R S' → Q v H'
theorem Took.same {H H' : Hp} {S R : Addr → Prop} {e : Addr} {x : Ie11.Doc} {v : V} {Q : VK} (q : Took CL CD H S R e x v Q) (D : DocAt CL CD H S e x) (s : Same H H') : Q v H' := q H' S (D.same s) (.of_same s) fun _ h => .inl h
def spTakePage (CL CD : Addr) : Sp := fun vs H Q _ => ∃ (e a : Addr) (x : Ie11.Doc) (S R : Addr → Prop) (b : NL), vs = [.ref e, .ref a] ∧ DocAt CL CD H S e x ∧ (∀ b, R b → H b ≠ none) ∧ H a = some (.lst (nv b)) ∧
  (pageBody b = none → Took CL CD H S R e x (.int 4) Q) ∧ (∀ w h, pageBody b = some (w, h) → Took CL CD H S R e ⟨w, h, [], []⟩ (.int 0) Q)
theorem ok_take_page {f : Addr} {fd : FuncData} (T : Txt K mg) (O : Obs K CL CD) (C_page_of : Callee P w K mg base 3 "page_of" ["body"] (spPageOf CL CD))
    (M_become : Method P w K mg base 1 "become" CD ["self", "another"] (spBecome CD)) (F : Fun K "take_page" "take_page" s_take_page f fd) : FnOk P w K mg base CX0 4 f fd ["document", "body"] (spTakePage CL CD) := by
  refine F.ok sc_take_page (fun vs H Q E h => ?_) (fun cdv A outer s H vs Q E hr h => ?_)
  · obtain ⟨e, a, x, S, R, b, rfl, _⟩ := h
    rfl
  · obtain ⟨e, a, x, S, R, b, rfl, D, hR, ha, q0, q1⟩ := h
    refine ⟨_, (pss_cons (ps_set (i := 2) sc_take_page.nd rfl (Or.inl rfl) (pe_cc C_page_of (hr.mono (by decide)) (pa_cons (pv 1) pa_nil)))
      (pss_cons (ps_if (pt_cmpR op_isN (pv 2) pe_non (nomark _))
      (pss_one (ps_ret (pe_k T.c_WRONG_PAGE)))
      pss_nil)
      (pss_cons (ps_expr (pe_mtc (pv 0) M_become (hr.mono (by decide)) (pa_cons (pv 2) pa_nil)))
      (pss_one (ps_ret (pe_k T.c_NO_FAULT)))))), ?_⟩
    refine ⟨_, rfl, a, b, rfl, ha, fun hb => ?_, fun w h hb H1 e1 S1 s1 D1 f1 => ?_⟩
    · refine ⟨_, rfl, rfl, _, rfl, iteT ?_⟩
      exact (q0 hb).same D (Same.refl _)
    · refine ⟨_, rfl, rfl, _, rfl, iteF ?_⟩
      obtain ⟨dx, la, oa, as, bs, DI⟩ := id D
      obtain ⟨dy, la', oa', as', bs', E1⟩ := id D1
      have hdn : ¬ S1 e := fun z => by
        have := DI.hd
        rw [f1 e z] at this
        cases this
      have nde : e ≠ e1 := fun z => hdn (z ▸ E1.sd)
      refine ⟨_, rfl, e, dx, _, rfl, s1 _ _ DI.hd, doc_become _ _ _ _, _, rfl, e, dx, e1, dy, _, _, _, _, _, _, _, _, rfl, nde, s1 _ _ DI.hd, E1.hd, fun H4 h4 but4 => ?_⟩
      refine q1 w h hb H4 _ (become_doc (DI.same s1) E1 hdn h4 but4) (fun c o hc nc => but4 c o (s1 c o hc) fun z => nc (z ▸ DI.sd)) (fun c hc => ?_)
      rcases hc with hc | hc
      · exact .inl hc
      · exact .inr (.inr (f1 c hc))
/-! ### take_layer -/
/-- take_layer: slots 0 document 1 body 2 layer -/
abbrev s_take_layer : Stmt := top 62
abbrev N_take_layer : List Str := ["document", "body", "layer"]
theorem sc_take_layer : FnScope N_take_layer ["document", "body"] (defScope s_take_layer) := ⟨rfl, rfl, rfl, by decide +kernel, rfl, by decide +kernel, by decide +kernel⟩
def spTakeLayer (CL CD : Addr) : Sp := fun vs H Q _ => ∃ (e a : Addr) (x : Ie11.Doc) (S R : Addr → Prop) (b : NL), vs = [.ref e, .ref a] ∧ DocAt CL CD H S e x ∧ Wf x ∧ (∀ b, R b → H b ≠ none) ∧ H a = some (.lst (nv b)) ∧ b.length ≤ 3000 ∧ B8 b ∧
  (Ie11.readLayer x.w x.h b = none → Took CL CD H S R e x (.int 5) Q) ∧ (∀ l, Ie11.readLayer x.w x.h b = some l → (6 ≤ x.layers.length → Took CL CD H S R e x (.int 7) Q) ∧ (¬ 6 ≤ x.layers.length → Took CL CD H S R e { x with layers := x.layers ++ [l] } (.int 0) Q))
/-- a layer that is new is put behind the others -/
theorem put_layer {H H1 : Hp} {S R : Addr → Prop} {d p dy n c : Addr} {l : Ie11.Layer} {x : Ie11.Doc} {dx la oa : Addr} {as bs : List Addr} (D : DocIn CL CD H S d x dx la oa as bs) (s1 : Same H H1) (np : H p = none) (sn : R n ∨ H n = none) (nn : ¬ S n) (sc : R c ∨ H c = none) (nc : ¬ S c) (hR : ∀ b, R b → H b ≠ none)
    (hp : H1 p = some (.ins CL dy (layF (.ref n) (.ref c)))) (hn : H1 n = some (.lst (nv l.name))) (hc : H1 c = some (.lst (nv l.cells))) :
    DocAt CL CD (upd H1 la (.lst (as.map V.ref ++ [.ref p]))) (Sx H S R (upd H1 la (.lst (as.map V.ref ++ [.ref p])))) d { x with layers := x.layers ++ [l] } ∧ Keeps H S (upd H1 la (.lst (as.map V.ref ++ [.ref p]))) := by
  have nS : ∀ {b}, ¬ S b → b ≠ d ∧ b ≠ la ∧ b ≠ oa := fun h => ⟨fun z => h (z ▸ D.sd), fun z => h (z ▸ D.sla), fun z => h (z ▸ D.soa)⟩
  have npS : p ≠ d ∧ p ≠ la ∧ p ≠ oa := ⟨(ne_of_none D.hd np).symm, (ne_of_none D.hla np).symm, (ne_of_none D.hoa np).symm⟩
  have D1 := D.same s1
  have e1 : (upd H1 la (.lst (as.map V.ref ++ [.ref p]))) p = some (.ins CL dy (layF (.ref n) (.ref c))) := by
    rw [upd_ne npS.2.1]
    exact hp
  have e2 : (upd H1 la (.lst (as.map V.ref ++ [.ref p]))) n = some (.lst (nv l.name)) := by
    rw [upd_ne (nS nn).2.1]
    exact hn
  have e3 : (upd H1 la (.lst (as.map V.ref ++ [.ref p]))) c = some (.lst (nv l.cells)) := by
    rw [upd_ne (nS nc).2.1]
    exact hc
  have x2 : Sx H S R (upd H1 la (.lst (as.map V.ref ++ [.ref p]))) n := by
    rcases sn with z | z
    · exact .inr (.inl z)
    · exact Sx.new z e2
  have x3 : Sx H S R (upd H1 la (.lst (as.map V.ref ++ [.ref p]))) c := by
    rcases sc with z | z
    · exact .inr (.inl z)
    · exact Sx.new z e3
  refine ⟨⟨dx, la, oa, as ++ [p], bs, D1.addLayer (fun b o _ nb h => by rw [upd_ne nb]; exact h) Sx.old (by rw [upd_same, List.map_append]; rfl) ⟨dy, n, c, e1, e2, e3, ⟨Sx.new np e1, npS⟩, ⟨x2, nS nn⟩, ⟨x3, nS nc⟩⟩ ?_ (Sx.dom D.dom hR (grows_upd (same_grows s1)))⟩, fun b o hb nb => ?_⟩
  · intro hm
    obtain ⟨i, hi⟩ := List.getElem?_of_mem hm
    have hl : i < x.layers.length := by rw [← D.lays.len]; exact (List.getElem?_eq_some_iff.mp hi).1
    obtain ⟨_, _, _, g1, _⟩ := (D.lays.at_ i p _ hi (List.getElem?_eq_getElem hl)).ex
    rw [np] at g1
    cases g1
  · rw [upd_ne (nS nb).2.1]
    exact s1 b o hb
theorem ok_take_layer {f : Addr} {fd : FuncData} (T : Txt K mg) (O : Obs K CL CD) (C_layer_of : Callee P w K mg base 4 "layer_of" ["body", "columns", "rows"] (spLayerOf CL))
    (F : Fun K "take_layer" "take_layer" s_take_layer f fd) : FnOk P w K mg base CX0 5 f fd ["document", "body"] (spTakeLayer CL CD) := by
  refine F.ok sc_take_layer (fun vs H Q E h => ?_) (fun cdv A outer s H vs Q E hr h => ?_)
  · obtain ⟨e, a, x, S, R, b, rfl, _⟩ := h
    rfl
  · obtain ⟨e, a, x, S, R, b, rfl, DA, W, hR, ha, hlen, h8, q0, q1⟩ := h
    obtain ⟨dx, la, oa, as, bs, D⟩ := id DA
    refine ⟨_, (pss_cons (ps_set (i := 2) sc_take_layer.nd rfl (Or.inl rfl) (pe_cc C_layer_of (hr.mono (by decide)) (pa_cons (pv 1) (pa_cons (pe_fld (pv 0) rfl) (pa_cons (pe_fld (pv 0) rfl) pa_nil)))))
      (pss_cons (ps_if (pt_cmpR op_isN (pv 2) pe_non (nomark _))
      (pss_one (ps_ret (pe_k T.c_WRONG_LAYER)))
      pss_nil)
      (pss_cons (ps_if (pt_cmpR op_eq (pe_callB call_len_seq (by rfl) T.b_len PySem.boot_len (pa_cons (pe_fld (pv 0) rfl) pa_nil)) (pe_k T.c_MOST_LAYERS) (nomark _))
      (pss_one (ps_ret (pe_k T.c_TOO_MANY)))
      pss_nil)
      (pss_cons (ps_expr (pe_bm PySem.F.plainAttrs_list PySem.F.slot_list_append PySem.F.type_list_append mt_append (pe_fld (pv 0) rfl) (pa_cons (pv 2) pa_nil)))
      (pss_one (ps_ret (pe_k T.c_NO_FAULT))))))), ?_⟩
    refine ⟨_, rfl, _, rfl, e, CD, dx, _, _, rfl, D.hd, O.clD, O.nColumns, doc_columns _ _ _ _, _, rfl, e, CD, dx, _, _, rfl, D.hd, O.clD, O.nRows, doc_rows _ _ _ _, a, b, x.w, x.h, rfl, ha, hlen, h8, W.w1, W.w8, W.h1, W.h8, fun er H1 s1 => ?_, fun l er H1 p dy n c s1 np nn nc hp hn hc => ?_⟩
    · refine ⟨_, rfl, rfl, _, rfl, iteT ?_⟩
      exact (q0 er).same DA s1
    · refine ⟨_, rfl, rfl, _, rfl, iteF ?_⟩
      obtain ⟨q6, q7⟩ := q1 l er
      have la1 := s1 _ _ D.hla
      have hd1 := s1 _ _ D.hd
      refine ⟨_, rfl, e, CD, dx, _, _, rfl, hd1, O.clD, O.nLayers, doc_layers _ _ _ _, la, _, rfl, .inl (SqL.of la1), rfl, _, rfl, ite2 (fun c6 => ?_) (fun c6 => ?_)⟩
      · refine (q6 ?_).same DA s1
        have := V.int.inj (of_decide_eq_true c6)
        rw [List.length_map, D.lays.len] at this
        omega
      · have h6 : ¬ 6 ≤ x.layers.length := fun z => c6 (decide_eq_true (by
          have := W.nl
          rw [List.length_map, D.lays.len, show x.layers.length = 6 by omega]
          rfl))
        refine ⟨_, rfl, e, CD, dx, _, _, rfl, hd1, O.clD, O.nLayers, doc_layers _ _ _ _, .inl ⟨rfl, _, SqL.of la1⟩, _, rfl, la, _, _, rfl, rfl, la1, smalls (by rw [List.length_map, D.lays.len]; omega), ?_⟩
        obtain ⟨D2, k2⟩ := put_layer (R := R) D s1 np (.inr nn) (fun z => D.dom _ z nn) (.inr nc) (fun z => D.dom _ z nc) hR hp hn hc
        exact q7 h6 _ _ D2 k2 (Sx.grow _ _ _ _)
/-! ### take_other -/
/-- take_other: slots 0 document 1 kind 2 body -/
abbrev s_take_other : Stmt := top 63
abbrev N_take_other : List Str := ["document", "kind", "body"]
theorem sc_take_other : FnScope N_take_other ["document", "kind", "body"] (defScope s_take_other) := ⟨rfl, rfl, rfl, by decide +kernel, rfl, by decide +kernel, by decide +kernel⟩
def spTakeOther (CL CD : Addr) : Sp := fun vs H Q _ => ∃ (e a : Addr) (x : Ie11.Doc) (S R : Addr → Prop) (k : Nat) (b : NL), vs = [.ref e, .int (k : Int), .ref a] ∧ DocAt CL CD H S e x ∧ Wf x ∧ (∀ b, R b → H b ≠ none) ∧ H a = some (.lst (nv b)) ∧ R a ∧ ¬ S a ∧
  (6 ≤ x.others.length → Took CL CD H S R e x (.int 7) Q) ∧ (¬ 6 ≤ x.others.length → Took CL CD H S R e { x with others := x.others ++ [⟨k, b⟩] } (.int 0) Q)
/-- an other that is new is put behind the others -/
theorem put_other {H H1 : Hp} {S R : Addr → Prop} {d p a : Addr} {k : Nat} {b : NL} {x : Ie11.Doc} {dx la oa : Addr} {as bs : List Addr} (D : DocIn CL CD H S d x dx la oa as bs) (s1 : Same H H1) (np : H p = none) (sa : R a) (na : ¬ S a) (hR : ∀ b, R b → H b ≠ none)
    (hp : H1 p = some (.tup [.int (k : Int), .ref a])) (ha : H1 a = some (.lst (nv b))) :
    DocAt CL CD (upd H1 oa (.lst (bs.map V.ref ++ [.ref p]))) (Sx H S R (upd H1 oa (.lst (bs.map V.ref ++ [.ref p])))) d { x with others := x.others ++ [⟨k, b⟩] } ∧ Keeps H S (upd H1 oa (.lst (bs.map V.ref ++ [.ref p]))) := by
  have nS : ∀ {b}, ¬ S b → b ≠ d ∧ b ≠ la ∧ b ≠ oa := fun h => ⟨fun z => h (z ▸ D.sd), fun z => h (z ▸ D.sla), fun z => h (z ▸ D.soa)⟩
  have npS : p ≠ d ∧ p ≠ la ∧ p ≠ oa := ⟨(ne_of_none D.hd np).symm, (ne_of_none D.hla np).symm, (ne_of_none D.hoa np).symm⟩
  have D1 := D.same s1
  have e1 : (upd H1 oa (.lst (bs.map V.ref ++ [.ref p]))) p = some (.tup [.int (k : Int), .ref a]) := by
    rw [upd_ne npS.2.2]
    exact hp
  have e2 : (upd H1 oa (.lst (bs.map V.ref ++ [.ref p]))) a = some (.lst (nv b)) := by
    rw [upd_ne (nS na).2.2]
    exact ha
  refine ⟨⟨dx, la, oa, as, bs ++ [p], D1.addOther (fun b o _ nb h => by rw [upd_ne nb]; exact h) Sx.old (by rw [upd_same, List.map_append]; rfl) ⟨a, e1, e2, ⟨Sx.new np e1, npS⟩, ⟨.inr (.inl sa), nS na⟩⟩ (Sx.dom D.dom hR (grows_upd (same_grows s1)))⟩, fun b o hb nb => ?_⟩
  rw [upd_ne (nS nb).2.2]
  exact s1 b o hb
theorem ok_take_other {f : Addr} {fd : FuncData} (T : Txt K mg) (O : Obs K CL CD) (F : Fun K "take_other" "take_other" s_take_other f fd) : FnOk P w K mg base CX0 1 f fd ["document", "kind", "body"] (spTakeOther CL CD) := by
  refine F.ok sc_take_other (fun vs H Q E h => ?_) (fun cdv A outer s H vs Q E hr h => ?_)
  · obtain ⟨e, a, x, S, R, k, b, rfl, _⟩ := h
    rfl
  · obtain ⟨e, a, x, S, R, k, b, rfl, DA, W, hR, ha, ra, na, q6, q7⟩ := h
    obtain ⟨dx, la, oa, as, bs, D⟩ := id DA
    refine ⟨_, (pss_cons (ps_if (pt_cmpR op_eq (pe_callB call_len_seq (by rfl) T.b_len PySem.boot_len (pa_cons (pe_fld (pv 0) rfl) pa_nil)) (pe_k T.c_MOST_OTHERS) (nomark _))
      (pss_one (ps_ret (pe_k T.c_TOO_MANY)))
      pss_nil)
      (pss_cons (ps_expr (pe_bm PySem.F.plainAttrs_list PySem.F.slot_list_append PySem.F.type_list_append mt_append (pe_fld (pv 0) rfl) (pa_cons (pe_tup (pa_cons (pv 1) (pa_cons (pv 2) pa_nil))) pa_nil)))
      (pss_one (ps_ret (pe_k T.c_NO_FAULT))))), ?_⟩
    refine ⟨_, rfl, e, CD, dx, _, _, rfl, D.hd, O.clD, O.nOthers, doc_others _ _ _ _, oa, _, rfl, .inl (SqL.of D.hoa), rfl, _, rfl, ite2 (fun c6 => ?_) (fun c6 => ?_)⟩
    · refine (q6 ?_).same DA (Same.refl _)
      have := V.int.inj (of_decide_eq_true c6)
      rw [List.length_map, D.oths.len] at this
      omega
    · have h6 : ¬ 6 ≤ x.others.length := fun z => c6 (decide_eq_true (by
        have := W.no
        rw [List.length_map, D.oths.len, show x.others.length = 6 by omega]
        rfl))
      refine ⟨_, rfl, e, CD, dx, _, _, rfl, D.hd, O.clD, O.nOthers, doc_others _ _ _ _, .inl ⟨rfl, _, SqL.of D.hoa⟩, _, rfl, _, rfl, (by show 2 ≤ sizeLine; decide), fun t nt => ?_⟩
      have s1 : Same H (upd H t (.tup [.int (k : Int), .ref a])) := same_upd nt
      refine ⟨oa, _, _, rfl, rfl, s1 _ _ D.hoa, smalls (by rw [List.length_map, D.oths.len]; omega), ?_⟩
      obtain ⟨D2, k2⟩ := put_other (R := R) D s1 nt ra na hR upd_same (s1 _ _ ha)
      exact q7 h6 _ _ D2 k2 (Sx.grow _ _ _ _)
/-! ### take_end -/
/-- take_end: slots 0 body 1 left -/
abbrev s_take_end : Stmt := top 64
abbrev N_take_end : List Str := ["body", "left"]
theorem sc_take_end : FnScope N_take_end ["body", "left"] (defScope s_take_end) := ⟨rfl, rfl, rfl, by decide +kernel, rfl, by decide +kernel, by decide +kernel⟩
def spTakeEnd : Sp := fun vs H Q _ => ∃ (a : Addr) (b : NL) (n : Nat), vs = [.ref a, .int (n : Int)] ∧ H a = some (.lst (nv b)) ∧ ∀ H', Same H H' → Q (.int (if b = [] ∧ n = 0 then 0 else 6)) H'
theorem ok_take_end {f : Addr} {fd : FuncData} (T : Txt K mg) (F : Fun K "take_end" "take_end" s_take_end f fd) : FnOk P w K mg base CX0 1 f fd ["body", "left"] spTakeEnd := by
  refine F.ok sc_take_end (fun vs H Q E h => ?_) (fun cdv A outer s H vs Q E hr h => ?_)
  · obtain ⟨a, b, n, rfl, _⟩ := h
    rfl
  · obtain ⟨a, b, n, rfl, ha, q⟩ := h
    refine ⟨_, (pss_cons (ps_if (PW.pt (pw_or (pt_cmpR (op_neD hr.units) (pv 0) (pe_lst pa_nil) (nomark _)) (pw_or1 (pt_cmpR op_gt (pv 1) pe_int (nomark _)))))
      (pss_one (ps_ret (pe_k T.c_WRONG_END)))
      pss_nil)
      (pss_one (ps_ret (pe_k T.c_NO_FAULT)))), ?_⟩
    refine ⟨_, rfl, Nat.zero_le _, fun z nz => ?_⟩
    have s1 : Same H (upd H z (.lst [])) := same_upd nz
    have hz : (upd H z (.lst [])) z = some (.lst (nv [])) := upd_same
    have q := q _ s1
    refine ⟨_, _, dp_lst (s1 _ _ ha), dp_lst hz, dl_shaped _, dl_shaped _, _, rfl, ?_⟩
    rw [eqv_lst]
    by_cases c : b = []
    · rw [decide_eq_true c]
      refine iteF ?_
      refine ⟨_, rfl, _, _, rfl, rfl, _, rfl, ite2 (fun c2 => ?_) (fun c2 => ?_)⟩
      · have := of_decide_eq_true c2
        rw [if_neg (by omega)] at q
        exact q
      · have : n = 0 := by
          by_cases z : n = 0
          · exact z
          · exact absurd (decide_eq_true (by omega)) c2
        rw [if_pos ⟨c, this⟩] at q
        exact q
    · rw [decide_eq_false c]
      refine iteT ?_
      rw [if_neg (fun z => c z.1)] at q
      exact q
/-! ### take_part -/
/-- take_part: slots 0 document 1 kind 2 body 3 left -/
abbrev s_take_part : Stmt := top 65
abbrev N_take_part : List Str := ["document", "kind", "body", "left"]
theorem sc_take_part : FnScope N_take_part ["document", "kind", "body", "left"] (defScope s_take_part) := ⟨rfl, rfl, rfl, by decide +kernel, rfl, by decide +kernel, by decide +kernel⟩
def spTakePart (CL CD : Addr) : Sp := fun vs H Q _ => ∃ (e a : Addr) (x : Ie11.Doc) (S : Addr → Prop) (k n : Nat) (b : NL), vs = [.ref e, .int (k : Int), .ref a, .int (n : Int)] ∧ DocAt CL CD H S e x ∧ Wf x ∧ H a = some (.lst (nv b)) ∧ b.length ≤ 3000 ∧ B8 b ∧ ¬ S a ∧
  Took CL CD H S (the a) e (takeP x k b n).2 (.int ((takeP x k b n).1 : Int)) Q
theorem ok_take_part {f : Addr} {fd : FuncData} (T : Txt K mg) (C_take_page : Callee P w K mg base 4 "take_page" ["document", "body"] (spTakePage CL CD)) (C_take_end : Callee P w K mg base 1 "take_end" ["body", "left"] spTakeEnd) (C_take_layer : Callee P w K mg base 5 "take_layer" ["document", "body"] (spTakeLayer CL CD))
    (C_take_other : Callee P w K mg base 1 "take_other" ["document", "kind", "body"] (spTakeOther CL CD)) (F : Fun K "take_part" "take_part" s_take_part f fd) : FnOk P w K mg base CX0 6 f fd ["document", "kind", "body", "left"] (spTakePart CL CD) := by
  refine F.ok sc_take_part (fun vs H Q E h => ?_) (fun cdv A outer s H vs Q E hr h => ?_)
  · obtain ⟨e, a, x, S, k, n, b, rfl, _⟩ := h
    rfl
  · obtain ⟨e, a, x, S, k, n, b, rfl, D, W, ha, hlen, h8, na, q⟩ := h
    refine ⟨_, (pss_cons (ps_if (pt_cmpR op_eq (pv 1) (pe_k T.c_PAGE_KIND) (nomark _))
      (pss_one (ps_ret (pe_cc C_take_page (hr.mono (by decide)) (pa_cons (pv 0) (pa_cons (pv 2) pa_nil)))))
      pss_nil)
      (pss_cons (ps_if (pt_cmpR op_eq (pv 1) (pe_k T.c_END_KIND) (nomark _))
      (pss_one (ps_ret (pe_cc C_take_end (hr.mono (by decide)) (pa_cons (pv 2) (pa_cons (pv 3) pa_nil)))))
      pss_nil)
      (pss_cons (ps_if (pt_cmpR op_eq (pv 1) (pe_k T.c_LAYER_KIND) (nomark _))
      (pss_one (ps_ret (pe_cc C_take_layer (hr.mono (by decide)) (pa_cons (pv 0) (pa_cons (pv 2) pa_nil)))))
      pss_nil)
      (pss_one (ps_ret (pe_cc C_take_other (hr.mono (by decide)) (pa_cons (pv 0) (pa_cons (pv 1) (pa_cons (pv 2) pa_nil))))))))), ?_⟩
    have hR : ∀ c, the a c → H c ≠ none := fun c hc => by
      rw [show c = a from hc, ha]
      simp
    refine ⟨_, rfl, rfl, _, rfl, ite2 (fun c => ?_) (fun c => ?_)⟩
    · have k1 : k = 1 := by
        have := V.int.inj (of_decide_eq_true c)
        omega
      subst k1
      refine ⟨_, rfl, _, rfl, e, a, x, S, the a, b, rfl, D, hR, ha, fun hb => ?_, fun w h hb => ?_⟩
      · rw [show takeP x 1 b n = (4, x) by unfold takeP; rw [if_pos rfl, hb]] at q
        exact q
      · rw [show takeP x 1 b n = (0, ⟨w, h, [], []⟩) by unfold takeP; rw [if_pos rfl, hb]] at q
        exact q
    · have k1 : ¬ k = 1 := fun z => c (decide_eq_true (by rw [z]; rfl))
      refine ⟨_, rfl, rfl, _, rfl, ite2 (fun c => ?_) (fun c => ?_)⟩
      · have k0 : k = 0 := by
          have := V.int.inj (of_decide_eq_true c)
          omega
        subst k0
        refine ⟨_, rfl, _, rfl, a, b, n, rfl, ha, fun H' s1 => ?_⟩
        rw [takeP_end] at q
        have e1 : (takeP x 0 b n).1 = if b = [] ∧ n = 0 then 0 else 6 := by
          unfold takeP
          rw [if_neg (by omega), if_pos rfl]
          split <;> rfl
        have q2 := q.same D s1
        rw [e1] at q2
        by_cases c2 : b = [] ∧ n = 0
        · rw [if_pos c2] at q2 ⊢
          exact q2
        · rw [if_neg c2] at q2 ⊢
          exact q2
      · have k0 : ¬ k = 0 := fun z => c (decide_eq_true (by rw [z]; rfl))
        refine ⟨_, rfl, rfl, _, rfl, ite2 (fun c => ?_) (fun c => ?_)⟩
        · have k2 : k = 2 := by
            have := V.int.inj (of_decide_eq_true c)
            omega
          subst k2
          refine ⟨_, rfl, _, rfl, e, a, x, S, the a, b, rfl, D, W, hR, ha, hlen, h8, fun hl => ?_, fun l hl => ⟨fun h6 => ?_, fun h6 => ?_⟩⟩
          · rw [show takeP x 2 b n = (5, x) by unfold takeP; rw [if_neg (by omega), if_neg (by omega), if_pos rfl, hl]] at q
            exact q
          · rw [show takeP x 2 b n = (7, x) by unfold takeP; rw [if_neg (by omega), if_neg (by omega), if_pos rfl, hl]; simp only []; rw [if_pos h6]] at q
            exact q
          · rw [show takeP x 2 b n = (0, { x with layers := x.layers ++ [l] }) by unfold takeP; rw [if_neg (by omega), if_neg (by omega), if_pos rfl, hl]; simp only []; rw [if_neg h6]] at q
            exact q
        · have k2 : ¬ k = 2 := fun z => c (decide_eq_true (by rw [z]; rfl))
          refine ⟨_, rfl, _, rfl, _, rfl, e, a, x, S, the a, k, b, rfl, D, W, hR, ha, rfl, na, fun h6 => ?_, fun h6 => ?_⟩
          · rw [show takeP x k b n = (7, x) by unfold takeP; rw [if_neg k1, if_neg k0, if_neg k2, if_pos h6]] at q
            exact q
          · rw [show takeP x k b n = (0, { x with others := x.others ++ [⟨k, b⟩] }) by unfold takeP; rw [if_neg k1, if_neg k0, if_neg k2, if_neg h6]] at q
            exact q
end
end Pf
end
section
set_option Elab.async false
set_option linter.all false
set_option maxRecDepth 100000
set_option maxHeartbeats 4000000
namespace Pf
open PySem PySem.Spec PyProof.Rows L2
theorem takeP_wf {x : Ie11.Doc} {k n : Nat} {b : NL} (W : Wf x) (hb : b.length ≤ 3000) (h8 : B8 b) : Wf (takeP x k b n).2 := by
  unfold takeP
  split
  · split
    · rename_i q hq
      obtain ⟨w, h⟩ := q
      obtain ⟨_, h1, h2, h3, h4⟩ := pageBody_some hq
      exact Wf.page h1 h2 h3 h4
    · exact W
  · split
    · split <;> exact W
    · split
      · split
        · exact W
        · rename_i l hl
          have ok := readLayer_ok hl
          split
          · exact W
          · rename_i h6
            exact W.addLayer h6 ⟨ok.1, ok.2.1, ok.2.2 h8⟩
      · split
        · exact W
        · rename_i h6
          exact W.addOther h6 hb
theorem wf0 : Wf doc0 := Wf.page (by omega) (by omega) (by omega) (by omega)
section
variable {P : Program} {w : World} {K : PySem.W.Frag} {mg : Str → Option Value} {base : Heap} {CL CD a_BEGINNING : Addr}
/-! ### behind_beginning -/
/-- behind_beginning: slots 0 some_bytes -/
abbrev s_behind_beginning : Stmt := top 66
abbrev N_behind_beginning : List Str := ["some_bytes"]
theorem sc_behind_beginning : FnScope N_behind_beginning ["some_bytes"] (defScope s_behind_beginning) := ⟨rfl, rfl, rfl, by decide +kernel, rfl, by decide +kernel, by decide +kernel⟩
def spBehind : Sp := fun vs H Q _ => ∃ (a : Addr) (b : NL), vs = [.ref a] ∧ H a = some (.lst (nv b)) ∧ ∀ H', Same H H' → Q (.int (offB b : Int)) H'
theorem ok_behind_beginning {f : Addr} {fd : FuncData} (T : Txt K mg) (U : Tups K mg a_BEGINNING) (F : Fun K "behind_beginning" "behind_beginning" s_behind_beginning f fd) : FnOk P w K mg base CX0 1 f fd ["some_bytes"] spBehind := by
  refine F.ok sc_behind_beginning (fun vs H Q E h => ?_) (fun cdv A outer s H vs Q E hr h => ?_)
  · obtain ⟨a, b, rfl, _⟩ := h
    rfl
  · obtain ⟨a, b, rfl, ha, q⟩ := h
    refine ⟨_, (pss_cons (ps_if (pt_cmpR (op_neD hr.units) (pe_callTy call_tuple_of (by rfl) T.b_tuple (by decide +kernel) (pa_cons (pe_slice sl_list (pv 0) po_none (po_some (pe_callB call_len_seq (by rfl) T.b_len PySem.boot_len (pa_cons (pe_glob (v := .ref a_BEGINNING) rfl U.t_BEGINNING rfl) pa_nil)))) pa_nil)) (pe_glob (v := .ref a_BEGINNING) rfl U.t_BEGINNING rfl) (nomark _))
      (pss_one (ps_ret pe_int))
      pss_nil)
      (pss_one (ps_ret (pe_callB call_len_seq (by rfl) T.b_len PySem.boot_len (pa_cons (pe_glob (v := .ref a_BEGINNING) rfl U.t_BEGINNING rfl) pa_nil))))), ?_⟩
    refine ⟨_, rfl, a_BEGINNING, _, rfl, .inr (U.q_BEGINNING H), _, rfl, a, nv b, rfl, SqL.of ha, fun u nu => ?_⟩
    have eu : cutV (nv b) none (some ((nv [80, 73]).length : Int)) = nv (b.take 2) := cut_nv0 b 2
    rw [eu]
    have s2 : Same H (upd H u (.lst (nv (b.take 2)))) := same_upd nu
    refine ⟨u, _, rfl, .inl ⟨SqL.of upd_same, fun t nt => ?_⟩⟩
    have s3 := Same.trans s2 (same_upd (o := .tup (nv (b.take 2))) nt)
    refine ⟨_, _, .tup (SqT.of upd_same) (dp_all (b.take 2)), .tup (U.q_BEGINNING _) (dp_all [80, 73]), dl_shapedT _, dl_shapedT _, _, rfl, ?_⟩
    rw [eqv_tup]
    have q := q _ s3
    unfold offB at q
    by_cases hb : b.take 2 = [80, 73]
    case neg =>
      rw [decide_eq_false hb]
      refine iteT ?_
      rw [if_neg hb] at q
      exact q
    case pos =>
      rw [decide_eq_true hb]
      refine iteF ?_
      rw [if_pos hb] at q
      exact ⟨a_BEGINNING, _, rfl, .inr (U.q_BEGINNING _), q⟩
/-! ### read_file -/
/-- read_file: slots 0 some_bytes 1 document 2 at 3 part 4 kind 5 body 6 behind 7 fault -/
abbrev s_read_file : Stmt := top 67
abbrev N_read_file : List Str := ["some_bytes", "document", "at", "part", "kind", "body", "behind", "fault"]
theorem sc_read_file : FnScope N_read_file ["some_bytes"] (defScope s_read_file) := ⟨rfl, rfl, rfl, by decide +kernel, rfl, by decide +kernel, by decide +kernel⟩
def spReadFile (CL CD : Addr) : Sp := fun vs H Q _ => ∃ (a : Addr) (b : NL), vs = [.ref a] ∧ H a = some (.lst (nv b)) ∧ b.length ≤ 3000 ∧ B8 b ∧
  (∀ g, Ie11.read b = .error g → g.1 ≠ 0 → ∀ (H' : Hp) (p e : Addr), Same H H' → H' p = some (.tup [.ref e, .int (g.1 : Int), .int (g.2 : Int)]) → Q (.ref p) H') ∧
  (∀ x, Ie11.read b = .ok x → Wf x → ∀ (H' : Hp) (p e : Addr) (n : Int) (S : Addr → Prop), Same H H' → H' p = some (.tup [.ref e, .int 0, .int n]) → DocAt CL CD H' S e x → (∀ c, S c → H c = none) → Q (.ref p) H')
theorem ok_read_file {f : Addr} {fd : FuncData} (T : Txt K mg) (O : Obs K CL CD) (U : Tups K mg a_BEGINNING) (M_Document : Maker P w K mg base 1 "Document" CD ["self", "columns", "rows"] (spDocInit CD)) (C_behind_beginning : Callee P w K mg base 1 "behind_beginning" ["some_bytes"] spBehind) (C_whole_part : Callee P w K mg base 2 "whole_part" ["some_bytes", "at"] spWhole)
    (C_take_part : Callee P w K mg base 6 "take_part" ["document", "kind", "body", "left"] (spTakePart CL CD)) (F : Fun K "read_file" "read_file" s_read_file f fd) : FnOk P w K mg base CX0 7 f fd ["some_bytes"] (spReadFile CL CD) := by
  refine F.ok sc_read_file (fun vs H Q E h => ?_) (fun cdv A outer s H vs Q E hr h => ?_)
  · obtain ⟨a, b, rfl, _⟩ := h
    rfl
  · obtain ⟨a, b, rfl, ha, hlen, h8, q0, q1⟩ := h
    refine ⟨_, (pss_cons (ps_set (i := 1) sc_read_file.nd rfl (Or.inl rfl) (pe_mkc M_Document (hr.mono (by decide)) (pa_cons pe_int (pa_cons pe_int pa_nil))))
      (pss_cons (ps_set (i := 2) sc_read_file.nd rfl (Or.inl rfl) (pe_cc C_behind_beginning (hr.mono (by decide)) (pa_cons (pv 0) pa_nil)))
      (pss_cons (ps_if (pt_cmpR op_eq (pv 2) pe_int (nomark _))
      (pss_one (ps_ret (pe_tup (pa_cons (pv 1) (pa_cons (pe_k T.c_WRONG_BEGINNING) (pa_cons pe_int pa_nil))))))
      pss_nil)
      (pss_cons (ps_while PassesOwn.never (pt_cmpR op_lt (pv 2) (pe_callB call_len_seq (by rfl) T.b_len PySem.boot_len (pa_cons (pv 0) pa_nil)) (nomark _))
      (pss_cons (ps_set (i := 3) sc_read_file.nd rfl (Or.inl rfl) (pe_cc C_whole_part (hr.mono (by decide)) (pa_cons (pv 0) (pa_cons (pv 2) pa_nil))))
      (pss_cons (ps_if (pt_cmpR op_isN (pv 3) pe_non (nomark _))
      (pss_one (ps_ret (pe_tup (pa_cons (pv 1) (pa_cons (pe_k T.c_WRONG_PART) (pa_cons (pv 2) pa_nil))))))
      pss_nil)
      (pss_cons (ps_asg (pv 3) (pg_tup (by rfl) (pgs_cons (pg_name (i := 4) sc_read_file.nd rfl (Or.inl rfl)) (pgs_cons (pg_name (i := 5) sc_read_file.nd rfl (Or.inl rfl)) (pgs_cons (pg_name (i := 6) sc_read_file.nd rfl (Or.inl rfl)) pgs_nil)))))
      (pss_cons (ps_if (pt_cmpR op_ne (pe_cmpR op_eq (pv 4) (pe_k T.c_PAGE_KIND) (nomark _)) (pe_cmpR op_eq (pv 2) (pe_callB call_len_seq (by rfl) T.b_len PySem.boot_len (pa_cons (pe_glob (v := .ref a_BEGINNING) rfl U.t_BEGINNING rfl) pa_nil)) (nomark _)) (nomark _))
      (pss_one (ps_ret (pe_tup (pa_cons (pv 1) (pa_cons (pe_k T.c_WRONG_PLACE) (pa_cons (pv 2) pa_nil))))))
      pss_nil)
      (pss_cons (ps_set (i := 7) sc_read_file.nd rfl (Or.inl rfl) (pe_cc C_take_part (hr.mono (by decide)) (pa_cons (pv 1) (pa_cons (pv 4) (pa_cons (pv 5) (pa_cons (pe_op op_sub (pe_callB call_len_seq (by rfl) T.b_len PySem.boot_len (pa_cons (pv 0) pa_nil)) (pv 6)) pa_nil))))))
      (pss_cons (ps_if (PW.pt (pw_or (pt_cmpR op_ne (pv 7) (pe_k T.c_NO_FAULT) (nomark _)) (pw_or1 (pt_cmpR op_eq (pv 4) (pe_k T.c_END_KIND) (nomark _)))))
      (pss_one (ps_ret (pe_tup (pa_cons (pv 1) (pa_cons (pv 7) (pa_cons (pv 2) pa_nil))))))
      pss_nil)
      (pss_one (ps_set (i := 2) sc_read_file.nd rfl (Or.inl rfl) (pv 6))))))))))
      (pss_one (ps_ret (pe_tup (pa_cons (pv 1) (pa_cons (pe_k T.c_WRONG_END) (pa_cons (pv 2) pa_nil)))))))))), ?_⟩
    -- document = Document(1, 1)
    intro e dy ne nd nee
    refine ⟨e, dy, _, _, rfl, upd_same, fun H1 la oa fla foa nlo hla hoa he but => ⟨rfl, ?_⟩⟩
    have s1 : Same H H1 := Same.made ne nd but
    obtain ⟨D1, f1⟩ := fresh_doc (CL := CL) (w := 1) (h := 1) ne fla foa nlo hla hoa he
    -- the beginning
    refine ⟨_, rfl, a, b, rfl, s1 _ _ ha, fun H3 t3 => ?_⟩
    have s3 := Same.trans s1 t3
    by_cases hb : b.take 2 = [80, 73]
    case neg =>
      rw [show offB b = 0 by unfold offB; rw [if_neg hb]]
      refine ⟨_, rfl, rfl, _, rfl, iteT ?_⟩
      refine ⟨_, rfl, (by show 3 ≤ sizeLine; decide), fun p np => ?_⟩
      exact q0 (1, 0) (read_begin hb) (by simp) _ p e (Same.trans s3 (same_upd np)) upd_same
    case pos =>
      rw [show offB b = 2 by unfold offB; rw [if_pos hb]]
      refine ⟨_, rfl, rfl, _, rfl, iteF ?_⟩
      refine ⟨fun m σ H' => Same H H' ∧ ∃ (i : Nat) (dd : Option Ie11.Doc) (S : Addr → Prop) (v3 v4 v5 v6 v7 : Option V), σ = [some (.ref a), some (.ref e), some (.int (i : Int)), v3, v4, v5, v6, v7] ∧ Rdg b i dd ∧ DocAt CL CD H' S e (dd.getD doc0) ∧ Wf (dd.getD doc0) ∧ (∀ c, S c → H c = none) ∧ m = b.length - i,
        ⟨_, s3, 2, none, _, none, none, none, none, none, rfl, Rdg.start hb, D1.same t3, wf0, f1, rfl⟩, ?_⟩
      rintro m σ H' ⟨s4, i, dd, S, v3, v4, v5, v6, v7, rfl, R, D, W, fS, rfl⟩
      have hL : H' a = some (.lst (nv b)) := s4 _ _ ha
      have hS : SqL K H' a (nv b) := SqL.of hL
      have hi : i ≤ b.length := R.2.1
      refine ⟨_, rfl, _, rfl, a, nv b, rfl, .inl hS, _, _, rfl, rfl, _, rfl, ite2 (fun c => ?_) (fun c => ?_)⟩
      · have hi1 : i < b.length := by
          have := of_decide_eq_true c
          rw [nv_len] at this
          omega
        refine ⟨fun σ' H2 => Same H H2 ∧ ∃ (i2 : Nat) (dd : Option Ie11.Doc) (S : Addr → Prop) (v3 v4 v5 v6 v7 : Option V), σ' = [some (.ref a), some (.ref e), some (.int (i2 : Int)), v3, v4, v5, v6, v7] ∧ i < i2 ∧ Rdg b i2 dd ∧ DocAt CL CD H2 S e (dd.getD doc0) ∧ Wf (dd.getD doc0) ∧ (∀ c, S c → H c = none), ?_, ?_⟩
        · rintro σ' H2 ⟨g1, i2, dd2, S2, w3, w4, w5, w6, w7, rfl, g2, g3, g4, g5, g6⟩
          exact ⟨b.length - i2, by omega, g1, i2, dd2, S2, w3, w4, w5, w6, w7, rfl, g3, g4, g5, g6, rfl⟩
        · refine ⟨_, rfl, _, rfl, a, b, i, rfl, hL, hlen, fun hw H5 s5 => ?_, fun z hz H5 p5 c5 s5 np5 nc5 hp5 hc5 => ?_⟩
          · refine ⟨_, rfl, rfl, _, rfl, iteT ?_⟩
            refine ⟨_, rfl, _, rfl, (by show 3 ≤ sizeLine; decide), fun p np => ?_⟩
            exact q0 (2, i) (R.none hi1 hw) (by simp) _ p e (Same.trans (Same.trans s4 s5) (same_upd np)) upd_same
          · have zf := wholePart_facts hz
            have s45 := Same.trans s4 s5
            refine ⟨_, rfl, rfl, _, rfl, iteF ?_⟩
            refine ⟨_, rfl, p5, _, rfl, SqT.of hp5, rfl, _, _, rfl, _, _, rfl, _, _, rfl, rfl, ?_⟩
            refine ⟨_, rfl, rfl, _, rfl, a_BEGINNING, _, rfl, .inr (U.q_BEGINNING H5), rfl, rfl, _, rfl, ?_⟩
            have ek : decide (V.int (z.1 : Int) = V.int 1) = decide (z.1 = 1) := by
              congr 1
              apply propext
              constructor
              · intro y
                have := V.int.inj y
                omega
              · intro y
                rw [y]
                rfl
            have ei : decide (V.int (i : Int) = V.int ((nv [80, 73]).length : Int)) = decide (i = 2) := by
              congr 1
              apply propext
              constructor
              · intro y
                have := V.int.inj y
                rw [nv_len] at this
                simp at this
                omega
              · intro y
                rw [y]
                rfl
            rw [ek, ei]
            by_cases hp : z.1 = 1 ↔ i = 2
            case neg =>
              have : decide (V.bl (decide (z.1 = 1)) = V.bl (decide (i = 2))) = false := by
                apply decide_eq_false
                intro y
                have := V.bl.inj y
                exact hp (by simpa using this)
              rw [this]
              refine iteT ?_
              refine ⟨_, rfl, _, rfl, (by show 3 ≤ sizeLine; decide), fun p np => ?_⟩
              exact q0 (3, i) (R.place hi1 hz hp) (by simp) _ p e (Same.trans s45 (same_upd np)) upd_same
            case pos =>
              have : decide (V.bl (decide (z.1 = 1)) = V.bl (decide (i = 2))) = true := by
                apply decide_eq_true
                congr 1
                simpa using hp
              rw [this]
              refine iteF ?_
              have hz3 : z.2.1.length ≤ 3000 := by omega
              have hz8 : B8 z.2.1 := fun y hy => h8 y (zf.2.2.2.1 y hy)
              have ncS : ¬ S c5 := fun y => by
                obtain ⟨dx, la, oa, as, bs, DI⟩ := D
                exact DI.dom _ y nc5
              refine ⟨_, rfl, _, rfl, _, rfl, _, rfl, a, nv b, rfl, .inl (SqL.of (s5 _ _ hL)), _, rfl, _, _, rfl, rfl, e, c5, dd.getD doc0, S, z.1, b.length - z.2.2, z.2.1, ?_, D.same s5, W, hc5, hz3, hz8, ncS, fun H6 S6 D6 k6 g6 => ?_⟩
              · rw [nv_len]
                show [V.ref e, V.int (z.1 : Int), V.ref c5, V.int ((b.length : Int) - (z.2.2 : Int))] = _
                rw [show (b.length : Int) - (z.2.2 : Int) = ((b.length - z.2.2 : Nat) : Int) by omega]
              · have fS6 : ∀ c, S6 c → H c = none := fun c hc => by
                  rcases g6 c hc with y | y | y
                  · exact fS c y
                  · rw [show c = c5 from y]
                    exact s4.free nc5
                  · exact s45.free y
                have s6 : Same H H6 := fun c o hc => k6 c o (s45 c o hc) fun y => by
                  rw [fS c y] at hc
                  cases hc
                have W6 := takeP_wf (k := z.1) (n := b.length - z.2.2) W hz3 hz8
                by_cases hf : (takeP (dd.getD doc0) z.1 z.2.1 (b.length - z.2.2)).1 = 0
                case neg =>
                  have e1 : (!decide (V.int ((takeP (dd.getD doc0) z.1 z.2.1 (b.length - z.2.2)).1 : Int) = V.int 0)) = true := by
                    have : ¬ V.int ((takeP (dd.getD doc0) z.1 z.2.1 (b.length - z.2.2)).1 : Int) = V.int 0 := fun y => hf (by have := V.int.inj y; omega)
                    simp [this]
                  refine ⟨_, rfl, rfl, _, rfl, ?_⟩
                  rw [e1]
                  refine iteT ?_
                  refine ⟨_, rfl, _, rfl, _, rfl, (by show 3 ≤ sizeLine; decide), fun p np => ?_⟩
                  exact q0 (_, i) (R.fault hi1 hz hp hf) hf _ p e (Same.trans s6 (same_upd np)) upd_same
                case pos =>
                  have e1 : (!decide (V.int ((takeP (dd.getD doc0) z.1 z.2.1 (b.length - z.2.2)).1 : Int) = V.int 0)) = false := by
                    rw [hf]
                    rfl
                  refine ⟨_, rfl, rfl, _, rfl, ?_⟩
                  rw [e1]
                  refine iteF ?_
                  refine ⟨_, rfl, rfl, _, rfl, ite2 (fun c0 => ?_) (fun c0 => ?_)⟩
                  · have k0 : z.1 = 0 := by
                      have := V.int.inj (of_decide_eq_true c0)
                      omega
                    have ed := R.done hi1 hz hp hf k0
                    rw [k0, takeP_end] at D6
                    refine ⟨_, rfl, _, rfl, _, rfl, (by show 3 ≤ sizeLine; decide), fun p np => ?_⟩
                    refine q1 _ ed W _ p e (i : Int) S6 (Same.trans s6 (same_upd np)) ?_ (D6.same (same_upd np)) fS6
                    rw [upd_same, hf]
                    rfl
                  · have k0 : z.1 ≠ 0 := fun y => c0 (decide_eq_true (by rw [y]; rfl))
                    exact ⟨_, rfl, s6, z.2.2, _, S6, _, _, _, _, _, rfl, by omega, R.next hi1 hz hp hf k0, D6, W6, fS6⟩
      · have hi1 : i = b.length := by
          by_cases y : i < b.length
          · exact absurd (decide_eq_true (by rw [nv_len]; omega)) c
          · omega
        subst hi1
        refine ⟨_, rfl, _, rfl, (by show 3 ≤ sizeLine; decide), fun p np => ?_⟩
        exact q0 (6, b.length) R.out (by simp) _ p e (Same.trans s4 (same_upd np)) upd_same
end
end Pf
end
section
set_option Elab.async false
set_option linter.all false
set_option maxRecDepth 100000
set_option maxHeartbeats 4000000
namespace Pf
open PySem PySem.Spec PyProof.Rows L2
/-! ### the saved parts in the heap -/
structure PartsAt (H : Hp) (pa : Addr) (ts cs : List Addr) (ps : List Ie11.Part) : Prop where
  hp : H pa = some (.lst (ts.map V.ref))
  lt : ts.length = ps.length
  lc : cs.length = ps.length
  at_ : ∀ (i : Nat) (t c : Addr) (p : Ie11.Part), ts[i]? = some t → cs[i]? = some c → ps[i]? = some p → H t = some (.tup [.int (p.kind : Int), .ref c]) ∧ H c = some (.lst (nv p.body))
  nd : cs.Nodup
  np : pa ∉ cs
section
variable {H H1 : Hp} {pa t c : Addr} {ts cs : List Addr} {ps : List Ie11.Part} {p : Ie11.Part}
theorem PartsAt.get (A : PartsAt H pa ts cs ps) {i : Nat} (hi : i < ps.length) : ∃ t c p, ts[i]? = some t ∧ cs[i]? = some c ∧ ps[i]? = some p ∧ H t = some (.tup [.int (p.kind : Int), .ref c]) ∧ H c = some (.lst (nv p.body)) := by
  have h1 : ts[i]? = some _ := List.getElem?_eq_getElem (by rw [A.lt]; exact hi)
  have h2 : cs[i]? = some _ := List.getElem?_eq_getElem (by rw [A.lc]; exact hi)
  have h3 : ps[i]? = some _ := List.getElem?_eq_getElem hi
  exact ⟨_, _, _, h1, h2, h3, A.at_ i _ _ _ h1 h2 h3⟩
theorem PartsAt.body (A : PartsAt H pa ts cs ps) {j : Nat} (h : cs[j]? = some c) : ∃ b : NL, H c = some (.lst (nv b)) := by
  have hj : j < ps.length := by rw [← A.lc]; exact (List.getElem?_eq_some_iff.mp h).1
  obtain ⟨t, c', p, _, g2, _, _, g5⟩ := A.get hj
  have : c = c' := Option.some.inj (h.symm.trans g2)
  rw [this]
  exact ⟨_, g5⟩
theorem PartsAt.snoc (A : PartsAt H pa ts cs ps) (s : Same H H1) (nc : H c = none) (ht : H1 t = some (.tup [.int (p.kind : Int), .ref c])) (hc : H1 c = some (.lst (nv p.body))) :
    PartsAt (upd H1 pa (.lst (ts.map V.ref ++ [.ref t]))) pa (ts ++ [t]) (cs ++ [c]) (ps ++ [p]) := by
  have hpa := s _ _ A.hp
  have npc : c ≠ pa := (ne_of_none A.hp nc).symm
  have ncs : c ∉ cs := fun h => by
    obtain ⟨j, hj⟩ := List.getElem?_of_mem h
    obtain ⟨b, hb⟩ := A.body hj
    rw [nc] at hb
    cases hb
  refine ⟨by rw [upd_same, List.map_append]; rfl, by simp [A.lt], by simp [A.lc], fun i t' c' p' h1 h2 h3 => ?_, List.nodup_append.mpr ⟨A.nd, by simp, fun u hu v hv e => ?_⟩, fun h => ?_⟩
  · rcases snoc_get h3 with r | ⟨r, rfl⟩
    · have hi := (List.getElem?_eq_some_iff.mp r).1
      rw [List.getElem?_append_left (by rw [A.lt]; exact hi)] at h1
      rw [List.getElem?_append_left (by rw [A.lc]; exact hi)] at h2
      obtain ⟨g1, g2⟩ := A.at_ i t' c' p' h1 h2 r
      refine ⟨?_, ?_⟩
      · rw [upd_ne (ne_of (s _ _ g1) hpa (by intro z; cases z))]
        exact s _ _ g1
      · rw [upd_ne (show c' ≠ pa from fun z => A.np (z ▸ List.mem_of_getElem? h2))]
        exact s _ _ g2
    · subst r
      rw [List.getElem?_append_right (by rw [A.lt]; exact Nat.le_refl _), A.lt, Nat.sub_self] at h1
      rw [List.getElem?_append_right (by rw [A.lc]; exact Nat.le_refl _), A.lc, Nat.sub_self] at h2
      have e1 : t = t' := Option.some.inj h1
      have e2 : c = c' := Option.some.inj h2
      subst e1 e2
      refine ⟨?_, ?_⟩
      · rw [upd_ne (ne_of ht hpa (by intro z; cases z))]
        exact ht
      · rw [upd_ne npc]
        exact hc
  · have : v = c := by simpa using hv
    subst this e
    exact ncs hu
  · rcases List.mem_append.mp h with z | z
    · exact A.np z
    · have : pa = c := by simpa using z
      exact npc this.symm
end
section
variable {P : Program} {w : World} {K : PySem.W.Frag} {mg : Str → Option Value} {base : Heap} {CL CD a_BEGINNING : Addr}
/-! ### saved_parts -/
/-- saved_parts: slots 0 some_bytes 1 saved 2 at 3 part 4 kind 5 body 6 behind -/
abbrev s_saved_parts : Stmt := top 69
abbrev N_saved_parts : List Str := ["some_bytes", "saved", "at", "part", "kind", "body", "behind"]
theorem sc_saved_parts : FnScope N_saved_parts ["some_bytes"] (defScope s_saved_parts) := ⟨rfl, rfl, rfl, by decide +kernel, rfl, by decide +kernel, by decide +kernel⟩
def spSavedParts : Sp := fun vs H Q _ => ∃ (a : Addr) (b : NL), vs = [.ref a] ∧ H a = some (.lst (nv b)) ∧ b.length ≤ 3000 ∧
  ∀ (H' : Hp) (pa : Addr) (ts cs : List Addr), Same H H' → PartsAt H' pa ts cs (savedAll (cutBegin b)) → (∀ c ∈ cs, H c = none) → Q (.ref pa) H'
theorem ok_saved_parts {f : Addr} {fd : FuncData} (T : Txt K mg) (C_behind_beginning : Callee P w K mg base 1 "behind_beginning" ["some_bytes"] spBehind) (C_whole_part : Callee P w K mg base 2 "whole_part" ["some_bytes", "at"] spWhole)
    (F : Fun K "saved_parts" "saved_parts" s_saved_parts f fd) : FnOk P w K mg base CX0 3 f fd ["some_bytes"] spSavedParts := by
  refine F.ok sc_saved_parts (fun vs H Q E h => ?_) (fun cdv A outer s H vs Q E hr h => ?_)
  · obtain ⟨a, b, rfl, _⟩ := h
    rfl
  · obtain ⟨a, b, rfl, ha, hlen, q⟩ := h
    refine ⟨_, (pss_cons (ps_set (i := 1) sc_saved_parts.nd rfl (Or.inl rfl) (pe_lst pa_nil))
      (pss_cons (ps_set (i := 2) sc_saved_parts.nd rfl (Or.inl rfl) (pe_cc C_behind_beginning (hr.mono (by decide)) (pa_cons (pv 0) pa_nil)))
      (pss_cons (ps_while PassesOwn.never (pt_cmpR op_lt (pv 2) (pe_callB call_len_seq (by rfl) T.b_len PySem.boot_len (pa_cons (pv 0) pa_nil)) (nomark _))
      (pss_cons (ps_set (i := 3) sc_saved_parts.nd rfl (Or.inl rfl) (pe_cc C_whole_part (hr.mono (by decide)) (pa_cons (pv 0) (pa_cons (pv 2) pa_nil))))
      (pss_one (ps_if (pt_cmpR op_isN (pv 3) pe_non (nomark _))
      (pss_one (ps_aug (i := 2) sc_saved_parts.nd rfl (Or.inl rfl) pe_int ip_add))
      (pss_cons (ps_asg (pv 3) (pg_tup (by rfl) (pgs_cons (pg_name (i := 4) sc_saved_parts.nd rfl (Or.inl rfl)) (pgs_cons (pg_name (i := 5) sc_saved_parts.nd rfl (Or.inl rfl)) (pgs_cons (pg_name (i := 6) sc_saved_parts.nd rfl (Or.inl rfl)) pgs_nil)))))
      (pss_cons (ps_expr (pe_bm PySem.F.plainAttrs_list PySem.F.slot_list_append PySem.F.type_list_append mt_append (pv 1) (pa_cons (pe_tup (pa_cons (pv 4) (pa_cons (pv 5) pa_nil))) pa_nil)))
      (pss_one (ps_set (i := 2) sc_saved_parts.nd rfl (Or.inl rfl) (pv 6)))))))))
      (pss_one (ps_ret (pv 1)))))), ?_⟩
    -- saved = []
    refine ⟨Nat.zero_le _, fun o no => ?_⟩
    have s1 : Same H (upd H o (.lst [])) := same_upd no
    -- at = behind_beginning(some_bytes)
    refine ⟨_, rfl, a, b, rfl, s1 _ _ ha, fun H2 s2 => ?_⟩
    have ho2 : H2 o = some (.lst (([] : List Addr).map V.ref)) := s2 _ _ upd_same
    refine ⟨fun m σ H' => Same H H' ∧ ∃ (i : Nat) (ts cs : List Addr) (acc : List Ie11.Part) (v3 v4 v5 v6 : Option V), σ = [some (.ref a), some (.ref o), some (.int (i : Int)), v3, v4, v5, v6] ∧ Svb b i acc ∧ acc.length ≤ i ∧ PartsAt H' o ts cs acc ∧ (∀ c ∈ cs, H c = none) ∧ m = b.length - i,
      ⟨_, Same.trans s1 s2, offB b, [], [], [], none, none, none, none, rfl, Svb.start b, Nat.zero_le _, ⟨ho2, rfl, rfl, fun i t c p h => by simp at h, List.nodup_nil, by simp⟩, fun c h => by simp at h, rfl⟩, ?_⟩
    rintro m σ H' ⟨s4, i, ts, cs, acc, v3, v4, v5, v6, rfl, V0, hal, A0, fc, rfl⟩
    have hL : H' a = some (.lst (nv b)) := s4 _ _ ha
    have hi : i ≤ b.length := V0.2.1
    refine ⟨_, rfl, _, rfl, a, nv b, rfl, .inl (SqL.of hL), _, _, rfl, rfl, _, rfl, ite2 (fun c => ?_) (fun c => ?_)⟩
    · have hi1 : i < b.length := by
        have := of_decide_eq_true c
        rw [nv_len] at this
        omega
      refine ⟨fun σ' H2 => Same H H2 ∧ ∃ (i2 : Nat) (ts cs : List Addr) (acc : List Ie11.Part) (v3 v4 v5 v6 : Option V), σ' = [some (.ref a), some (.ref o), some (.int (i2 : Int)), v3, v4, v5, v6] ∧ i < i2 ∧ Svb b i2 acc ∧ acc.length ≤ i2 ∧ PartsAt H2 o ts cs acc ∧ (∀ c ∈ cs, H c = none), ?_, ?_⟩
      · rintro σ' H2 ⟨g1, i2, ts2, cs2, acc2, w3, w4, w5, w6, rfl, g2, g3, g4, g5, g6⟩
        exact ⟨b.length - i2, by have := g3.2.1; omega, g1, i2, ts2, cs2, acc2, w3, w4, w5, w6, rfl, g3, g4, g5, g6, rfl⟩
      · refine ⟨_, rfl, _, rfl, a, b, i, rfl, hL, hlen, fun hw H5 s5 => ?_, fun z hz H5 p5 c5 s5 np5 nc5 hp5 hc5 => ?_⟩
        · refine ⟨_, rfl, rfl, _, rfl, iteT ?_⟩
          have A5 : PartsAt H5 o ts cs acc := ⟨s5 _ _ A0.hp, A0.lt, A0.lc, fun j t c p h1 h2 h3 => by
            obtain ⟨g1, g2⟩ := A0.at_ j t c p h1 h2 h3
            exact ⟨s5 _ _ g1, s5 _ _ g2⟩, A0.nd, A0.np⟩
          exact ⟨_, rfl, _, _, rfl, rfl, Same.trans s4 s5, i + 1, ts, cs, acc, _, _, _, _, rfl, by omega, V0.skip hi1 hw, by omega, A5, fc⟩
        · have zf := wholePart_facts hz
          refine ⟨_, rfl, rfl, _, rfl, iteF ?_⟩
          refine ⟨_, rfl, p5, _, rfl, SqT.of hp5, rfl, _, _, rfl, _, _, rfl, _, _, rfl, rfl, ?_⟩
          refine ⟨_, rfl, .inl ⟨rfl, _, SqL.of (s5 _ _ A0.hp)⟩, _, rfl, _, rfl, (by show 2 ≤ sizeLine; decide), fun t nt => ?_⟩
          have t6 : Same H5 (upd H5 t (.tup [.int (z.1 : Int), .ref c5])) := same_upd nt
          refine ⟨o, _, _, rfl, rfl, t6 _ _ (s5 _ _ A0.hp), smalls (by rw [List.length_map, A0.lt]; omega), ?_⟩
          refine ⟨_, rfl, same_set (Same.trans s4 (Same.trans s5 t6)) no, z.2.2, ts ++ [t], cs ++ [c5], acc ++ [⟨z.1, z.2.1⟩], _, _, _, _, rfl, by omega, V0.part hi1 hz, ?_, A0.snoc (p := ⟨z.1, z.2.1⟩) (Same.trans s5 t6) nc5 upd_same (t6 _ _ hc5), fun c hc => ?_⟩
          · rw [List.length_append]
            simp
            omega
          · rcases List.mem_append.mp hc with y | y
            · exact fc c y
            · rw [show c = c5 by simpa using y]
              exact s4.free nc5
    · have hi1 : i = b.length := by
        by_cases y : i < b.length
        · exact absurd (decide_eq_true (by rw [nv_len]; omega)) c
        · omega
      subst hi1
      rw [← V0.done] at A0
      exact ⟨_, rfl, q H' o ts cs s4 A0 fc⟩
/-! ### saved_page -/
/-- saved_page: slots 0 parts 1 kind 2 body 3 document -/
abbrev s_saved_page : Stmt := top 70
abbrev N_saved_page : List Str := ["parts", "kind", "body", "document"]
theorem sc_saved_page : FnScope N_saved_page ["parts"] (defScope s_saved_page) := ⟨rfl, rfl, rfl, by decide +kernel, rfl, by decide +kernel, by decide +kernel⟩
def spSavedPage (CL CD : Addr) : Sp := fun vs H Q _ => ∃ (pa : Addr) (ts cs : List Addr) (ps : List Ie11.Part), vs = [.ref pa] ∧ PartsAt H pa ts cs ps ∧ (pageSaved ps = none → Q .non H) ∧
  ∀ w h, pageSaved ps = some (w, h) → ∀ (H' : Hp) (e : Addr) (S : Addr → Prop), Same H H' → DocAt CL CD H' S e ⟨w, h, [], []⟩ → (∀ c, S c → H c = none) → Q (.ref e) H'
theorem ok_saved_page {f : Addr} {fd : FuncData} (T : Txt K mg) (C_page_of : Callee P w K mg base 3 "page_of" ["body"] (spPageOf CL CD))
    (F : Fun K "saved_page" "saved_page" s_saved_page f fd) : FnOk P w K mg base CX0 4 f fd ["parts"] (spSavedPage CL CD) := by
  refine F.ok sc_saved_page (fun vs H Q E h => ?_) (fun cdv A outer s H vs Q E hr h => ?_)
  · obtain ⟨pa, ts, cs, ps, rfl, _⟩ := h
    rfl
  · obtain ⟨pa, ts, cs, ps, rfl, A0, q0, q1⟩ := h
    refine ⟨_, (pss_cons (ps_for PassesOwn.never rfl (pi_list (pv 0)) (pg_tup (by rfl) (pgs_cons (pg_name (i := 1) sc_saved_page.nd rfl (Or.inl rfl)) (pgs_cons (pg_name (i := 2) sc_saved_page.nd rfl (Or.inl rfl)) pgs_nil)))
      (pss_one (ps_if (pt_cmpR op_eq (pv 1) (pe_k T.c_PAGE_KIND) (nomark _))
      (pss_cons (ps_set (i := 3) sc_saved_page.nd rfl (Or.inl rfl) (pe_cc C_page_of (hr.mono (by decide)) (pa_cons (pv 2) pa_nil)))
      (pss_one (ps_if (pt_cmpR op_notN (pv 3) pe_non (nomark _))
      (pss_one (ps_ret (pv 3)))
      pss_nil)))
      pss_nil)))
      (pss_one (ps_ret pe_non))), ?_⟩
    refine ⟨_, rfl, pa, rfl, ⟨_, SqL.of A0.hp⟩, for_list (K := K) (a := pa) (xs := ts.map V.ref) (fun i σ H' => H' = H ∧ pageSaved (ps.take i) = none ∧ ∃ v1 v2 v3 : Option V, σ = [some (.ref pa), v1, v2, v3])
      ⟨rfl, rfl, none, none, none, rfl⟩ (fun i σ H' _ ⟨e, _⟩ => SqL.of (by rw [e]; exact A0.hp)) ?_ ?_⟩
    · rintro i v σ H' hv ⟨eH, hn, v1, v2, v3, rfl⟩
      obtain ⟨t, ht, rfl⟩ := refs_of hv
      have hi : i < ps.length := by rw [← A0.lt]; exact (List.getElem?_eq_some_iff.mp ht).1
      obtain ⟨t', c, p, h1, h2, h3, g1, g2⟩ := A0.get hi
      have et : t = t' := Option.some.inj (ht.symm.trans h1)
      subst et
      rw [← eH] at g1 g2
      refine ⟨t, _, rfl, SqT.of g1, rfl, _, _, rfl, _, _, rfl, rfl, ?_⟩
      refine ⟨_, rfl, rfl, _, rfl, ite2 (fun k => ?_) (fun k => ?_)⟩
      · have k1 : p.kind = 1 := by
          have := V.int.inj (of_decide_eq_true k)
          omega
        refine ⟨_, rfl, c, p.body, rfl, g2, fun hb => ?_, fun w h hb H1 e1 S1 s1 D1 f1 => ?_⟩
        · refine ⟨_, rfl, rfl, _, rfl, iteF ⟨eH, ?_, _, _, _, rfl⟩⟩
          rw [take_snoc h3, pageSaved_snoc, hn]
          simp only []
          rw [if_pos k1, hb]
        · refine ⟨_, rfl, rfl, _, rfl, iteT ⟨_, rfl, ?_⟩⟩
          rw [eH] at s1 f1
          refine q1 w h ?_ H1 e1 S1 s1 D1 f1
          have e2 : pageSaved (ps.take (i + 1)) = some (w, h) := by
            rw [take_snoc h3, pageSaved_snoc, hn]
            simp only []
            rw [if_pos k1, hb]
          rw [← List.take_append_drop (i + 1) ps, pageSaved_app, e2]
      · refine ⟨eH, ?_, _, _, _, rfl⟩
        rw [take_snoc h3, pageSaved_snoc, hn]
        simp only []
        rw [if_neg fun z => k (decide_eq_true (by rw [z]; rfl))]
    · rintro σ H' ⟨eH, hn, v1, v2, v3, rfl⟩
      rw [List.length_map, A0.lt, List.take_length] at hn
      rw [eH]
      exact q0 hn
/-! ### mended -/
/-- mended: slots 0 some_bytes 1 parts 2 document 3 kind 4 body -/
abbrev s_mended : Stmt := top 71
abbrev N_mended : List Str := ["some_bytes", "parts", "document", "kind", "body"]
theorem sc_mended : FnScope N_mended ["some_bytes"] (defScope s_mended) := ⟨rfl, rfl, rfl, by decide +kernel, rfl, by decide +kernel, by decide +kernel⟩
def spMended (CL CD : Addr) : Sp := fun vs H Q _ => ∃ (a : Addr) (b : NL), vs = [.ref a] ∧ H a = some (.lst (nv b)) ∧ b.length ≤ 3000 ∧ B8 b ∧
  (Ie11.mended b = none → ∀ H', Same H H' → Q .non H') ∧
  (∀ x, Ie11.mended b = some x → Wf x → ∀ (H' : Hp) (e : Addr) (S : Addr → Prop), Same H H' → DocAt CL CD H' S e x → (∀ c, S c → H c = none) → Q (.ref e) H')
theorem ok_mended {f : Addr} {fd : FuncData} (T : Txt K mg) (C_saved_parts : Callee P w K mg base 3 "saved_parts" ["some_bytes"] spSavedParts) (C_saved_page : Callee P w K mg base 4 "saved_page" ["parts"] (spSavedPage CL CD))
    (C_take_layer : Callee P w K mg base 5 "take_layer" ["document", "body"] (spTakeLayer CL CD)) (C_take_other : Callee P w K mg base 1 "take_other" ["document", "kind", "body"] (spTakeOther CL CD))
    (F : Fun K "mended" "mended" s_mended f fd) : FnOk P w K mg base CX0 6 f fd ["some_bytes"] (spMended CL CD) := by
  refine F.ok sc_mended (fun vs H Q E h => ?_) (fun cdv A outer s H vs Q E hr h => ?_)
  · obtain ⟨a, b, rfl, _⟩ := h
    rfl
  · obtain ⟨a, b, rfl, ha, hlen, h8, q0, q1⟩ := h
    refine ⟨_, (pss_cons (ps_set (i := 1) sc_mended.nd rfl (Or.inl rfl) (pe_cc C_saved_parts (hr.mono (by decide)) (pa_cons (pv 0) pa_nil)))
      (pss_cons (ps_set (i := 2) sc_mended.nd rfl (Or.inl rfl) (pe_cc C_saved_page (hr.mono (by decide)) (pa_cons (pv 1) pa_nil)))
      (pss_cons (ps_if (pt_cmpR op_isN (pv 2) pe_non (nomark _))
      (pss_one (ps_ret pe_non))
      pss_nil)
      (pss_cons (ps_for PassesOwn.never rfl (pi_list (pv 1)) (pg_tup (by rfl) (pgs_cons (pg_name (i := 3) sc_mended.nd rfl (Or.inl rfl)) (pgs_cons (pg_name (i := 4) sc_mended.nd rfl (Or.inl rfl)) pgs_nil)))
      (pss_one (ps_if (pt_cmpR op_eq (pv 3) (pe_k T.c_LAYER_KIND) (nomark _))
      (pss_one (ps_expr (pe_cc C_take_layer (hr.mono (by decide)) (pa_cons (pv 2) (pa_cons (pv 4) pa_nil)))))
      (pss_one (ps_if (pt_cmpR op_gt (pv 3) (pe_k T.c_LAYER_KIND) (nomark _))
      (pss_one (ps_expr (pe_cc C_take_other (hr.mono (by decide)) (pa_cons (pv 2) (pa_cons (pv 3) (pa_cons (pv 4) pa_nil))))))
      pss_nil)))))
      (pss_one (ps_ret (pv 2))))))), ?_⟩
    refine ⟨_, rfl, a, b, rfl, ha, hlen, fun H1 pa ts cs s1 A0 fc => ?_⟩
    have bl : ∀ p ∈ savedAll (cutBegin b), p.body.length ≤ 3000 ∧ B8 p.body := fun p hp => by
      have := saved_mem p hp
      exact ⟨by omega, fun y hy => h8 y (this.2 y hy)⟩
    have m0 := mended_none (b := b)
    have m1 := fun w h => mended_some (b := b) (w := w) (h := h)
    generalize savedAll (cutBegin b) = ps at A0 bl m0 m1
    refine ⟨_, rfl, pa, ts, cs, ps, rfl, A0, fun hn => ?_, fun w h hs H2 e S2 s2 D2 f2 => ?_⟩
    · refine ⟨_, rfl, rfl, _, rfl, iteT ?_⟩
      exact q0 (m0 hn) H1 s1
    · refine ⟨_, rfl, rfl, _, rfl, iteF ?_⟩
      have ok := pageSaved_ok ps w h hs
      refine ⟨_, rfl, pa, rfl, ⟨_, SqL.of (s2 _ _ A0.hp)⟩, for_list (K := K) (a := pa) (xs := ts.map V.ref) (fun i σ H' => ∃ (S : Addr → Prop) (v3 v4 : Option V), σ = [some (.ref a), some (.ref pa), some (.ref e), v3, v4] ∧ DocAt CL CD H' S e ((ps.take i).foldl mendP ⟨w, h, [], []⟩) ∧ Wf ((ps.take i).foldl mendP ⟨w, h, [], []⟩) ∧
          (∀ c o, H1 c = some o → (∀ j, j < i → cs[j]? ≠ some c) → H' c = some o) ∧ (∀ c, S c → H1 c = none ∨ ∃ j, j < i ∧ cs[j]? = some c))
        ⟨S2, none, none, rfl, D2, Wf.page ok.1 ok.2.1 ok.2.2.1 ok.2.2.2, fun c o hc _ => s2 c o hc, fun c hc => .inl (f2 c hc)⟩ (fun i σ H' _ ⟨S, v3, v4, _, _, _, k, _⟩ => SqL.of (k _ _ A0.hp fun j _ z => A0.np (List.mem_of_getElem? z))) ?_ ?_⟩
      · rintro i v σ H' hv ⟨S, v3, v4, rfl, D, W, k, fS⟩
        obtain ⟨t, ht, rfl⟩ := refs_of hv
        have hi : i < ps.length := by rw [← A0.lt]; exact (List.getElem?_eq_some_iff.mp ht).1
        obtain ⟨t', c, p, h1, h2, h3, g1, g2⟩ := A0.get hi
        have et : t = t' := Option.some.inj (ht.symm.trans h1)
        subst et
        obtain ⟨pl, p8⟩ := bl p (List.mem_of_getElem? h3)
        have ncj : ∀ j, j < i → cs[j]? ≠ some c := fun j hj z => by
          have := nd_ix A0.nd z h2
          omega
        have ntj : ∀ j, j < i → cs[j]? ≠ some t := fun j hj z => by
          obtain ⟨y, hy⟩ := A0.body z
          rw [g1] at hy
          cases hy
        have ht' := k _ _ g1 ntj
        have hc' := k _ _ g2 ncj
        have ncS : ¬ S c := fun z => by
          rcases fS c z with y | ⟨j, hj, y⟩
          · rw [g2] at y
            cases y
          · exact ncj j hj y
        have ex : (ps.take (i + 1)).foldl mendP ⟨w, h, [], []⟩ = mendP ((ps.take i).foldl mendP ⟨w, h, [], []⟩) p := by
          rw [take_snoc h3, List.foldl_append]
          rfl
        rw [ex]
        generalize (ps.take i).foldl mendP ⟨w, h, [], []⟩ = x at D W
        have W6 : Wf (mendP x p) := by
          unfold mendP
          split
          · exact W
          · exact takeP_wf W pl p8
        have nxt : ∀ (H6 : Hp) (S6 : Addr → Prop), Keeps H' S H6 → Grow H' S (the c) S6 → (∀ c o, H1 c = some o → (∀ j, j < i + 1 → cs[j]? ≠ some c) → H6 c = some o) ∧ (∀ c, S6 c → H1 c = none ∨ ∃ j, j < i + 1 ∧ cs[j]? = some c) := fun H6 S6 k6 g6 => by
          refine ⟨fun d o hd hj => k6 d o (k d o hd fun j h => hj j (by omega)) fun z => ?_, fun d hd => ?_⟩
          · rcases fS d z with y | ⟨j, hj2, y⟩
            · rw [hd] at y
              cases y
            · exact hj j (by omega) y
          · rcases g6 d hd with z | z | z
            · rcases fS d z with y | ⟨j, hj2, y⟩
              · exact .inl y
              · exact .inr ⟨j, by omega, y⟩
            · exact .inr ⟨i, by omega, by rw [show d = c from z]; exact h2⟩
            · cases e1 : H1 d with
              | none => exact .inl rfl
              | some o =>
                by_cases hj : ∃ j, j < i ∧ cs[j]? = some d
                · obtain ⟨j, hj, y⟩ := hj
                  exact .inr ⟨j, by omega, y⟩
                · rw [k d o e1 fun j h y => hj ⟨j, h, y⟩] at z
                  cases z
        refine ⟨t, _, rfl, SqT.of ht', rfl, _, _, rfl, _, _, rfl, rfl, ?_⟩
        refine ⟨_, rfl, rfl, _, rfl, ite2 (fun c2 => ?_) (fun c2 => ?_)⟩
        · have k2 : p.kind = 2 := by
            have := V.int.inj (of_decide_eq_true c2)
            omega
          have em : mendP x p = (takeP x 2 p.body 0).2 := by
            unfold mendP
            rw [if_neg (by omega), k2]
          refine ⟨_, rfl, _, rfl, e, c, x, S, the c, p.body, rfl, D, W, the_ne hc', hc', pl, p8, fun hl => ?_, fun l hl => ⟨fun h6 => ?_, fun h6 => ?_⟩⟩
          · rw [show takeP x 2 p.body 0 = (5, x) by unfold takeP; rw [if_neg (by omega), if_neg (by omega), if_pos rfl, hl]] at em
            rw [em] at W6 ⊢
            exact fun H6 S6 D6 k6 g6 => ⟨S6, _, _, rfl, D6, W6, nxt H6 S6 k6 g6⟩
          · rw [show takeP x 2 p.body 0 = (7, x) by unfold takeP; rw [if_neg (by omega), if_neg (by omega), if_pos rfl, hl]; simp only []; rw [if_pos h6]] at em
            rw [em] at W6 ⊢
            exact fun H6 S6 D6 k6 g6 => ⟨S6, _, _, rfl, D6, W6, nxt H6 S6 k6 g6⟩
          · rw [show takeP x 2 p.body 0 = (0, { x with layers := x.layers ++ [l] }) by unfold takeP; rw [if_neg (by omega), if_neg (by omega), if_pos rfl, hl]; simp only []; rw [if_neg h6]] at em
            rw [em] at W6 ⊢
            exact fun H6 S6 D6 k6 g6 => ⟨S6, _, _, rfl, D6, W6, nxt H6 S6 k6 g6⟩
        · have k2 : ¬ p.kind = 2 := fun z => c2 (decide_eq_true (by rw [z]; rfl))
          refine ⟨_, rfl, _, _, rfl, rfl, _, rfl, ite2 (fun c3 => ?_) (fun c3 => ?_)⟩
          · have k3 : 2 < p.kind := by
              have := of_decide_eq_true c3
              omega
            have em : mendP x p = (takeP x p.kind p.body 0).2 := by
              unfold mendP
              rw [if_neg (by omega)]
            refine ⟨_, rfl, _, rfl, _, rfl, e, c, x, S, the c, p.kind, p.body, rfl, D, W, the_ne hc', hc', rfl, ncS, fun h6 => ?_, fun h6 => ?_⟩
            · rw [show takeP x p.kind p.body 0 = (7, x) by unfold takeP; rw [if_neg (by omega), if_neg (by omega), if_neg (by omega), if_pos h6]] at em
              rw [em] at W6 ⊢
              exact fun H6 S6 D6 k6 g6 => ⟨S6, _, _, rfl, D6, W6, nxt H6 S6 k6 g6⟩
            · rw [show takeP x p.kind p.body 0 = (0, { x with others := x.others ++ [⟨p.kind, p.body⟩] }) by unfold takeP; rw [if_neg (by omega), if_neg (by omega), if_neg (by omega), if_neg h6]] at em
              rw [em] at W6 ⊢
              exact fun H6 S6 D6 k6 g6 => ⟨S6, _, _, rfl, D6, W6, nxt H6 S6 k6 g6⟩
          · have k3 : p.kind < 2 := by
              by_cases z : p.kind < 2
              · exact z
              · exact absurd (decide_eq_true (by omega)) c3
            have em : mendP x p = x := by
              unfold mendP
              rw [if_pos k3]
            rw [em] at W6 ⊢
            exact ⟨S, _, _, rfl, D, W6, nxt H' S (.of_same (Same.refl _)) fun _ z => .inl z⟩
      · rintro σ H' ⟨S, v3, v4, rfl, D, W, k, fS⟩
        rw [List.length_map, A0.lt, List.take_length] at D W
        refine ⟨_, rfl, q1 _ (m1 w h hs) W H' e S (fun c o hc => k c o (s1 c o hc) fun j _ z => ?_) D (fun c hc => ?_)⟩
        · rw [fc c (List.mem_of_getElem? z)] at hc
          cases hc
        · rcases fS c hc with y | ⟨j, _, y⟩
          · exact s1.free y
          · exact fc c (List.mem_of_getElem? y)
end
end Pf
end
section
set_option Elab.async false
set_option linter.all false
set_option maxRecDepth 100000
set_option maxHeartbeats 4000000
namespace Pf
open PySem PySem.Spec PyProof.Rows L2
/-! ### what each call answers, by the specification -/
section
variable (x : Ie11.Doc)
theorem step_page (w h : Nat) : Ie11.step x (.page w h) = if w < 1 ∨ 8 < w ∨ h < 1 ∨ 8 < h then (x, [-1]) else (⟨w, h, [], []⟩, [0]) := rfl
theorem step_layer (b : NL) : Ie11.step x (.layer b) = if 12 < b.length ∨ Ie11.isBytes b = false then (x, [-2]) else if 6 ≤ x.layers.length then (x, [-5]) else ({ x with layers := x.layers ++ [⟨b, List.replicate (x.w * x.h) 0⟩] }, Ie11.ints [x.layers.length]) := rfl
theorem step_cells_none {i : Nat} (l : NL) (h : x.layers[i]? = none) : Ie11.step x (.cells i l) = (x, [-1]) := by
  show (match x.layers[i]? with
    | none => (x, [-1])
    | some y => if l.length ≠ x.w * x.h ∨ Ie11.isBytes l = false then (x, [-2]) else ({ x with layers := x.layers.set i { y with cells := l } }, Ie11.ints [((List.range x.h).flatMap fun y => Ie11.rowBytes x.w l y).length])) = _
  rw [h]
theorem step_cells_some {i : Nat} {y : Ie11.Layer} (l : NL) (h : x.layers[i]? = some y) : Ie11.step x (.cells i l) = if l.length ≠ x.w * x.h ∨ Ie11.isBytes l = false then (x, [-2]) else ({ x with layers := x.layers.set i { y with cells := l } }, Ie11.ints [(rowsTo x.w l x.h).length]) := by
  show (match x.layers[i]? with
    | none => (x, [-1])
    | some y => if l.length ≠ x.w * x.h ∨ Ie11.isBytes l = false then (x, [-2]) else ({ x with layers := x.layers.set i { y with cells := l } }, Ie11.ints [((List.range x.h).flatMap fun y => Ie11.rowBytes x.w l y).length])) = _
  rw [h]
  rfl
theorem step_other (k : Nat) (b : NL) : Ie11.step x (.other k b) = if k < 3 ∨ 255 < k ∨ 40 < b.length ∨ Ie11.isBytes b = false then (x, [-2]) else if 6 ≤ x.others.length then (x, [-5]) else ({ x with others := x.others ++ [⟨k, b⟩] }, Ie11.ints [x.others.length]) := rfl
theorem step_drop (i : Nat) : Ie11.step x (.drop i) = if x.layers.length ≤ i then (x, [-1]) else ({ x with layers := x.layers.eraseIdx i }, Ie11.ints [x.layers.length - 1]) := rfl
theorem step_write : Ie11.step x .write = (x, Ie11.ints ((Ie11.write x).length :: Ie11.write x)) := rfl
theorem step_read_bad {b : NL} (h : Ie11.isBytes b = false) : Ie11.step x (.read b) = (x, [-2]) := if_pos h
theorem step_read_ok {b : NL} {y : Ie11.Doc} (h : Ie11.isBytes b = true) (e : Ie11.read b = .ok y) : Ie11.step x (.read b) = (y, Ie11.told y) := by
  show (if Ie11.isBytes b = false then (x, [-2]) else (match Ie11.read b with
    | .ok x => (x, Ie11.told x)
    | .error f => (x, [-(f.1 : Int) - 10, (f.2 : Int)]))) = _
  rw [if_neg (by rw [h]; simp), e]
theorem step_read_error {b : NL} {f : Ie11.Fault} (h : Ie11.isBytes b = true) (e : Ie11.read b = .error f) : Ie11.step x (.read b) = (x, [-(f.1 : Int) - 10, (f.2 : Int)]) := by
  show (if Ie11.isBytes b = false then (x, [-2]) else (match Ie11.read b with
    | .ok x => (x, Ie11.told x)
    | .error f => (x, [-(f.1 : Int) - 10, (f.2 : Int)]))) = _
  rw [if_neg (by rw [h]; simp), e]
end
section
variable {CL CD : Addr} {H H1 Hm : Hp} {S R S' : Addr → Prop} {d p : Addr} {x x' : Ie11.Doc} {c : Ie11.Call} {l : List Int} {Q : VK}
theorem DocAt.dom (D : DocAt CL CD H S d x) : ∀ b, S b → H b ≠ none := by
  obtain ⟨dx, la, oa, as, bs, D⟩ := D
  exact D.dom
/-- an answer that leaves the document as it was -/
theorem Done.same (q : Done CL CD H S R d x c Q) (D : DocAt CL CD H S d x) (W : Wf x) (e : Ie11.step x c = (x, l)) (s : Same H H1) (n : H1 p = none) : Q (.ref p) (upd H1 p (.lst (iv l))) := by
  have s2 : Same H (upd H1 p (.lst (iv l))) := Same.trans s (same_upd n)
  refine q _ S p ?_ ?_ (.of_same s2) (fun _ h => .inl h) ?_ (s.free n) (fun z => D.dom _ z (s.free n))
  · rw [e]
    exact D.same s2
  · rw [e]
    exact W
  · rw [e]
    exact upd_same
/-- an answer that leaves another document -/
theorem Done.put (q : Done CL CD H S R d x c Q) (D : DocAt CL CD Hm S' d x') (W : Wf x') (e : Ie11.step x c = (x', l)) (k : Keeps H S Hm) (g : Grow H S R S') (h : ∀ b, H b ≠ none → Hm b ≠ none) (n : Hm p = none) : Q (.ref p) (upd Hm p (.lst (iv l))) := by
  have s2 : Same Hm (upd Hm p (.lst (iv l))) := same_upd n
  refine q _ S' p ?_ ?_ (fun b o hb nb => s2 b o (k b o hb nb)) g ?_ ?_ (fun z => D.dom _ z n)
  · rw [e]
    exact D.same s2
  · rw [e]
    exact W
  · rw [e]
    exact upd_same
  · cases z : H p with
    | none => rfl
    | some o => exact absurd n (h p (by rw [z]; simp))
end
section
variable {P : Program} {w : World} {K : PySem.W.Frag} {mg : Str → Option Value} {base : Heap} {CL CD a_BEGINNING : Addr}
theorem iv1 (z : Int) : iv [z] = [.int z] := rfl
/-! ### page -/
/-- page: slots 0 document 1 columns 2 rows -/
abbrev s_page : Stmt := top 95
abbrev N_page : List Str := ["document", "columns", "rows"]
theorem sc_page : FnScope N_page ["document", "columns", "rows"] (defScope s_page) := ⟨rfl, rfl, rfl, by decide +kernel, rfl, by decide +kernel, by decide +kernel⟩
def spPage (CL CD : Addr) : Sp := fun vs H Q _ => ∃ (d : Addr) (x : Ie11.Doc) (S R : Addr → Prop) (w h : Nat), vs = [.ref d, .int (w : Int), .int (h : Int)] ∧ DocAt CL CD H S d x ∧ Wf x ∧ (∀ b, R b → H b ≠ none) ∧ Done CL CD H S R d x (.page w h) Q
theorem ok_page {f : Addr} {fd : FuncData} (T : Txt K mg) (O : Obs K CL CD) (C_is_page : Callee P w K mg base 1 "is_page" ["columns", "rows"] spIsPage) (M_Document : Maker P w K mg base 1 "Document" CD ["self", "columns", "rows"] (spDocInit CD))
    (M_become : Method P w K mg base 1 "become" CD ["self", "another"] (spBecome CD)) (F : Fun K "page" "page" s_page f fd) : FnOk P w K mg base CX0 3 f fd ["document", "columns", "rows"] (spPage CL CD) := by
  refine F.ok sc_page (fun vs H Q E h => ?_) (fun cdv A outer s H vs Q E hr h => ?_)
  · obtain ⟨d, x, S, R, w, h, rfl, _⟩ := h
    rfl
  · obtain ⟨d, x, S, R, w, h, rfl, DA, W, hR, q⟩ := h
    refine ⟨_, (pss_cons (ps_if (pt_not (pt_val (pe_cc C_is_page (hr.mono (by decide)) (pa_cons (pv 1) (pa_cons (pv 2) pa_nil)))))
      (pss_one (ps_ret (pe_lst (pa_cons (pe_k T.c_OUT_OF_RANGE) pa_nil))))
      pss_nil)
      (pss_cons (ps_expr (pe_mtc (pv 0) M_become (hr.mono (by decide)) (pa_cons (pe_mkc M_Document (hr.mono (by decide)) (pa_cons (pv 1) (pa_cons (pv 2) pa_nil))) pa_nil)))
      (pss_one (ps_ret (pe_lst (pa_cons pe_int pa_nil)))))), ?_⟩
    obtain ⟨dx, la, oa, as, bs, D⟩ := id DA
    refine ⟨_, rfl, _, rfl, w, h, rfl, _, rfl, ?_⟩
    cases hp : pageOk w h with
    | false =>
      refine iteT ?_
      refine ⟨(by show 1 ≤ sizeLine; decide), fun p np => ?_⟩
      refine q.same (l := [-1]) DA W ?_ (Same.refl _) np
      rw [step_page, if_pos]
      by_cases c : 1 ≤ w ∧ w ≤ 8 ∧ 1 ≤ h ∧ h ≤ 8
      · rw [show pageOk w h = true from decide_eq_true c] at hp
        cases hp
      · omega
    | true =>
      refine iteF ?_
      have c : 1 ≤ w ∧ w ≤ 8 ∧ 1 ≤ h ∧ h ≤ 8 := of_decide_eq_true hp
      refine ⟨_, rfl, d, dx, _, rfl, D.hd, doc_become _ _ _ _, _, rfl, _, rfl, fun e2 dy ne2 ndy nee => ?_⟩
      refine ⟨e2, dy, _, _, rfl, upd_same, fun H3 la' oa' fla foa nlo hla hoa he but => ⟨rfl, ?_⟩⟩
      have s3 : Same H H3 := Same.made ne2 ndy but
      refine ⟨d, dx, e2, dy, _, _, _, _, _, _, _, _, rfl, ne_of_none D.hd ne2, s3 _ _ D.hd, he, fun H4 h4 but4 => ?_⟩
      obtain ⟨D4, k4, _⟩ := new_page (R := R) D ne2 ndy fla foa nlo hla hoa but h4 but4 hR
      refine ⟨(by show 1 ≤ sizeLine; decide), fun p np => ?_⟩
      refine q.put (l := [0]) D4 (Wf.page c.1 c.2.1 c.2.2.1 c.2.2.2) ?_ k4 (Sx.grow _ _ _ _) (fun b hb z => ?_) np
      · rw [step_page, if_neg (by omega)]
      · by_cases e : b = d
        · rw [e, h4] at z
          cases z
        · cases q : H3 b with
          | none => exact same_grows s3 b hb q
          | some o =>
            rw [but4 b o q e] at z
            cases z
/-! ### layer -/
/-- layer: slots 0 document 1 name -/
abbrev s_layer : Stmt := top 96
abbrev N_layer : List Str := ["document", "name"]
theorem sc_layer : FnScope N_layer ["document", "name"] (defScope s_layer) := ⟨rfl, rfl, rfl, by decide +kernel, rfl, by decide +kernel, by decide +kernel⟩
def spLayer (CL CD : Addr) : Sp := fun vs H Q _ => ∃ (d a : Addr) (x : Ie11.Doc) (S : Addr → Prop) (b : NL), vs = [.ref d, .ref a] ∧ DocAt CL CD H S d x ∧ Wf x ∧ H a = some (.lst (nv b)) ∧ b.length ≤ 3000 ∧ ¬ S a ∧ Done CL CD H S (the a) d x (.layer b) Q
theorem isBytes_b8 {b : NL} (h : Ie11.isBytes b = true) : B8 b := fun x hx => of_decide_eq_true (List.all_eq_true.mp h x hx)
theorem ok_layer {f : Addr} {fd : FuncData} (T : Txt K mg) (O : Obs K CL CD) (C_are_bytes : Callee P w K mg base 1 "are_bytes" ["numbers"] spAreBytes) (M_Layer : Maker P w K mg base 1 "Layer" CL ["self", "name", "numbers"] (spLayInit CL))
    (F : Fun K "layer" "layer" s_layer f fd) : FnOk P w K mg base CX0 3 f fd ["document", "name"] (spLayer CL CD) := by
  refine F.ok sc_layer (fun vs H Q E h => ?_) (fun cdv A outer s H vs Q E hr h => ?_)
  · obtain ⟨d, a, x, S, b, rfl, _⟩ := h
    rfl
  · obtain ⟨d, a, x, S, b, rfl, DA, W, ha, hlen, na, q⟩ := h
    refine ⟨_, (pss_cons (ps_if (PW.pt (pw_or (pt_cmpR op_gt (pe_callB call_len_seq (by rfl) T.b_len PySem.boot_len (pa_cons (pv 1) pa_nil)) (pe_k T.c_MOST_NAME) (nomark _)) (pw_or1 (pt_not (pt_val (pe_cc C_are_bytes (hr.mono (by decide)) (pa_cons (pv 1) pa_nil)))))))
      (pss_one (ps_ret (pe_lst (pa_cons (pe_k T.c_ILL_FORMED) pa_nil))))
      pss_nil)
      (pss_cons (ps_if (pt_cmpR op_eq (pe_callB call_len_seq (by rfl) T.b_len PySem.boot_len (pa_cons (pe_fld (pv 0) rfl) pa_nil)) (pe_k T.c_MOST_LAYERS) (nomark _))
      (pss_one (ps_ret (pe_lst (pa_cons (pe_k T.c_FULL) pa_nil))))
      pss_nil)
      (pss_cons (ps_expr (pe_bm PySem.F.plainAttrs_list PySem.F.slot_list_append PySem.F.type_list_append mt_append (pe_fld (pv 0) rfl) (pa_cons (pe_mkc M_Layer (hr.mono (by decide)) (pa_cons (pv 1) (pa_cons (pe_op op_rep (pe_lst (pa_cons pe_int pa_nil)) (pe_op op_mul (pe_fld (pv 0) rfl) (pe_fld (pv 0) rfl))) pa_nil))) pa_nil)))
      (pss_one (ps_ret (pe_lst (pa_cons (pe_op op_sub (pe_callB call_len_seq (by rfl) T.b_len PySem.boot_len (pa_cons (pe_fld (pv 0) rfl) pa_nil)) pe_int) pa_nil))))))), ?_⟩
    obtain ⟨dx, la, oa, as, bs, D⟩ := id DA
    have bad : ∀ H1, (12 < b.length ∨ Ie11.isBytes b = false) → Same H H1 → ∀ p, H1 p = none → Q (.ref p) (upd H1 p (.lst [.int (-2)])) := fun H1 hc s1 p np => by
      refine q.same (l := [-2]) DA W ?_ s1 np
      rw [step_layer, if_pos hc]
    refine ⟨_, rfl, a, nv b, rfl, .inl (SqL.of ha), _, _, rfl, rfl, _, rfl, ite2 (fun c => ?_) (fun c => ?_)⟩
    · refine iteT ⟨(by show 1 ≤ sizeLine; decide), fun p np => ?_⟩
      have := of_decide_eq_true c
      rw [nv_len] at this
      exact bad H (.inl (by omega)) (Same.refl _) p np
    · have c12 : ¬ 12 < b.length := fun z => c (decide_eq_true (by rw [nv_len]; omega))
      refine ⟨_, rfl, a, b, rfl, ha, hlen, fun H1 s1 => ⟨_, rfl, ?_⟩⟩
      cases hb : Ie11.isBytes b with
      | false =>
        refine iteT ⟨(by show 1 ≤ sizeLine; decide), fun p np => ?_⟩
        exact bad H1 (.inr hb) s1 p np
      | true =>
        refine iteF ?_
        have hd1 := s1 _ _ D.hd
        have la1 := s1 _ _ D.hla
        refine ⟨_, rfl, d, CD, dx, _, _, rfl, hd1, O.clD, O.nLayers, doc_layers _ _ _ _, la, _, rfl, .inl (SqL.of la1), rfl, _, rfl, ite2 (fun c6 => ?_) (fun c6 => ?_)⟩
        · refine ⟨(by show 1 ≤ sizeLine; decide), fun p np => ?_⟩
          refine q.same (l := [-5]) DA W ?_ s1 np
          have := V.int.inj (of_decide_eq_true c6)
          rw [List.length_map, D.lays.len] at this
          rw [step_layer, if_neg (by rw [hb]; simp; omega), if_pos (by omega)]
        · have h6 : ¬ 6 ≤ x.layers.length := fun z => c6 (decide_eq_true (by
            have := W.nl
            rw [List.length_map, D.lays.len, show x.layers.length = 6 by omega]
            rfl))
          have h64 := wh64 W.w8 W.h8
          refine ⟨_, rfl, d, CD, dx, _, _, rfl, hd1, O.clD, O.nLayers, doc_layers _ _ _ _, .inl ⟨rfl, _, SqL.of la1⟩, _, rfl, (by show 1 ≤ sizeLine; decide), fun z nz => ?_⟩
          have s2 := Same.trans s1 (same_upd (o := .lst [.int 0]) nz)
          refine ⟨_, rfl, d, CD, dx, _, _, rfl, s2 _ _ D.hd, O.clD, O.nColumns, doc_columns _ _ _ _, _, rfl, d, CD, dx, _, _, rfl, s2 _ _ D.hd, O.clD, O.nRows, doc_rows _ _ _ _, _, _, rfl, rfl, .inl ⟨by have := W.w8; omega, by have := W.w8; omega⟩, ?_⟩
          have ewh : ((x.w : Int) * (x.h : Int)) = ((x.w * x.h : Nat) : Int) := rfl
          refine ⟨z, _, _, rfl, rfl, upd_same, by omega, by omega, small (by simp only [List.length_singleton]; omega), fun u nu => ?_⟩
          have s3 := Same.trans s2 (same_upd (o := .lst (List.replicate ((x.w : Int) * (x.h : Int)).toNat [V.int 0]).flatten) nu)
          refine fun y dy ny ndy ney => ⟨y, dy, _, _, rfl, upd_same, fun H4 h4 but => ⟨rfl, ?_⟩⟩
          have s4 := Same.made ny ndy but
          have s34 := Same.trans s3 s4
          have hu : H4 u = some (.lst (nv (List.replicate (x.w * x.h) 0))) := s4 _ _ (by
            rw [upd_same, flat_rep, nv_rep]
            rfl)
          refine ⟨la, _, _, rfl, rfl, s34 _ _ D.hla, smalls (by rw [List.length_map, D.lays.len]; omega), ?_⟩
          obtain ⟨D5, k5⟩ := put_layer (R := the a) (l := ⟨b, List.replicate (x.w * x.h) 0⟩) D s34 (s3.free ny) (.inl rfl) na (.inr (s2.free nu)) (fun z => D.dom _ z (s2.free nu)) (the_ne ha) h4 (s34 _ _ ha) hu
          have n1 : d ≠ la := D.ndla
          have hd5 : (upd H4 la (.lst (as.map V.ref ++ [.ref y]))) d = some (.ins CD dx (docF (.int (x.w : Int)) (.int (x.h : Int)) (.ref la) (.ref oa))) := by
            rw [upd_ne n1]
            exact s34 _ _ D.hd
          refine ⟨_, rfl, d, CD, dx, _, _, rfl, hd5, O.clD, O.nLayers, doc_layers _ _ _ _, la, _, rfl, .inl (SqL.of upd_same), _, _, rfl, rfl, (by show 1 ≤ sizeLine; decide), fun p np => ?_⟩
          have ea : (((as.map V.ref ++ [V.ref y]).length : Nat) : Int) - 1 = (x.layers.length : Int) := by
            rw [List.length_append, List.length_map, D.lays.len]
            simp
          show Q (.ref p) (upd _ p (.lst [.int ((((as.map V.ref ++ [V.ref y]).length : Nat) : Int) - 1)]))
          rw [ea]
          refine q.put (l := Ie11.ints [x.layers.length]) D5 (W.addLayer h6 ⟨by show b.length ≤ 12; omega, List.length_replicate, fun v hv => by have := List.eq_of_mem_replicate hv; omega⟩) ?_ k5 (Sx.grow _ _ _ _) (grows_upd (same_grows s34)) np
          rw [step_layer, if_neg (by rw [hb]; simp; omega), if_neg h6]
/-! ### cells -/
/-- cells: slots 0 document 1 i 2 numbers -/
abbrev s_cells : Stmt := top 97
abbrev N_cells : List Str := ["document", "i", "numbers"]
theorem sc_cells : FnScope N_cells ["document", "i", "numbers"] (defScope s_cells) := ⟨rfl, rfl, rfl, by decide +kernel, rfl, by decide +kernel, by decide +kernel⟩
def spCells (CL CD : Addr) : Sp := fun vs H Q _ => ∃ (d a : Addr) (x : Ie11.Doc) (S : Addr → Prop) (i : Nat) (b : NL), vs = [.ref d, .int (i : Int), .ref a] ∧ DocAt CL CD H S d x ∧ Wf x ∧ H a = some (.lst (nv b)) ∧ b.length ≤ 3000 ∧ ¬ S a ∧ Done CL CD H S (the a) d x (.cells i b) Q
theorem ok_cells {f : Addr} {fd : FuncData} (T : Txt K mg) (O : Obs K CL CD) (C_are_bytes : Callee P w K mg base 1 "are_bytes" ["numbers"] spAreBytes) (C_written_rows : Callee P w K mg base 6 "written_rows" ["numbers", "columns"] spWrittenRows)
    (F : Fun K "cells" "cells" s_cells f fd) : FnOk P w K mg base CX0 7 f fd ["document", "i", "numbers"] (spCells CL CD) := by
  refine F.ok sc_cells (fun vs H Q E h => ?_) (fun cdv A outer s H vs Q E hr h => ?_)
  · obtain ⟨d, a, x, S, i, b, rfl, _⟩ := h
    rfl
  · obtain ⟨d, a, x, S, i, b, rfl, DA, W, ha, hlen, na, q⟩ := h
    refine ⟨_, (pss_cons (ps_if (pt_cmpR op_ge (pv 1) (pe_callB call_len_seq (by rfl) T.b_len PySem.boot_len (pa_cons (pe_fld (pv 0) rfl) pa_nil)) (nomark _))
      (pss_one (ps_ret (pe_lst (pa_cons (pe_k T.c_OUT_OF_RANGE) pa_nil))))
      pss_nil)
      (pss_cons (ps_if (PW.pt (pw_or (pt_cmpR op_ne (pe_callB call_len_seq (by rfl) T.b_len PySem.boot_len (pa_cons (pv 2) pa_nil)) (pe_op op_mul (pe_fld (pv 0) rfl) (pe_fld (pv 0) rfl)) (nomark _)) (pw_or1 (pt_not (pt_val (pe_cc C_are_bytes (hr.mono (by decide)) (pa_cons (pv 2) pa_nil)))))))
      (pss_one (ps_ret (pe_lst (pa_cons (pe_k T.c_ILL_FORMED) pa_nil))))
      pss_nil)
      (pss_cons (ps_fld (pe_ix ix_list (pe_fld (pv 0) rfl) (pv 1) (fun _ _ => rfl)) (pv 2) rfl)
      (pss_one (ps_ret (pe_lst (pa_cons (pe_callB call_len_seq (by rfl) T.b_len PySem.boot_len (pa_cons (pe_cc C_written_rows (hr.mono (by decide)) (pa_cons (pv 2) (pa_cons (pe_fld (pv 0) rfl) pa_nil))) pa_nil)) pa_nil))))))), ?_⟩
    obtain ⟨dx, la, oa, as, bs, D⟩ := id DA
    refine ⟨_, rfl, _, rfl, d, CD, dx, _, _, rfl, D.hd, O.clD, O.nLayers, doc_layers _ _ _ _, la, _, rfl, .inl (SqL.of D.hla), _, _, rfl, rfl, _, rfl, ite2 (fun c => ?_) (fun c => ?_)⟩
    · refine ⟨(by show 1 ≤ sizeLine; decide), fun p np => ?_⟩
      have := of_decide_eq_true c
      rw [List.length_map, D.lays.len] at this
      exact q.same (l := [-1]) DA W (step_cells_none x b (List.getElem?_eq_none (by omega))) (Same.refl _) np
    · have hi : i < x.layers.length := by
        by_cases z : i < x.layers.length
        · exact z
        · exact absurd (decide_eq_true (by rw [List.length_map, D.lays.len]; omega)) c
      obtain ⟨l, hl⟩ : ∃ l, x.layers[i]? = some l := ⟨_, List.getElem?_eq_getElem hi⟩
      obtain ⟨y, hy⟩ : ∃ y, as[i]? = some y := ⟨_, List.getElem?_eq_getElem (by rw [D.lays.len]; exact hi)⟩
      have es := step_cells_some x b hl
      have bad : ∀ H1, (b.length ≠ x.w * x.h ∨ Ie11.isBytes b = false) → Same H H1 → ∀ p, H1 p = none → Q (.ref p) (upd H1 p (.lst [.int (-2)])) := fun H1 hc s1 p np => by
        rw [if_pos hc] at es
        exact q.same (l := [-2]) DA W es s1 np
      have h64 := wh64 W.w8 W.h8
      refine ⟨_, rfl, a, nv b, rfl, .inl (SqL.of ha), _, rfl, d, CD, dx, _, _, rfl, D.hd, O.clD, O.nColumns, doc_columns _ _ _ _, _, rfl, d, CD, dx, _, _, rfl, D.hd, O.clD, O.nRows, doc_rows _ _ _ _, _, _, rfl, rfl, .inl ⟨by have := W.w8; omega, by have := W.w8; omega⟩, rfl, _, rfl, ?_⟩
      have ewh : ((x.w : Int) * (x.h : Int)) = ((x.w * x.h : Nat) : Int) := rfl
      by_cases cl : b.length = x.w * x.h
      case neg =>
        have e1 : decide (V.int ((nv b).length : Int) = V.int ((x.w : Int) * (x.h : Int))) = false := decide_eq_false fun z => by
          have := V.int.inj z
          rw [nv_len] at this
          omega
        rw [e1]
        refine iteT (iteT ⟨(by show 1 ≤ sizeLine; decide), fun p np => ?_⟩)
        exact bad H (.inl cl) (Same.refl _) p np
      case pos =>
        have e1 : decide (V.int ((nv b).length : Int) = V.int ((x.w : Int) * (x.h : Int))) = true := decide_eq_true (by rw [nv_len, cl, ewh])
        rw [e1]
        refine iteF ?_
        refine ⟨_, rfl, a, b, rfl, ha, hlen, fun H1 s1 => ⟨_, rfl, ?_⟩⟩
        cases hb : Ie11.isBytes b with
        | false =>
          refine iteT ⟨(by show 1 ≤ sizeLine; decide), fun p np => ?_⟩
          exact bad H1 (.inr hb) s1 p np
        | true =>
          refine iteF ?_
          have h8 := isBytes_b8 hb
          have D1 := D.same s1
          obtain ⟨dy, n, c0, g1, g2, g3, t1, t2, t3⟩ := (D1.lays.at_ i y l hy hl).ex
          refine ⟨_, rfl, _, rfl, d, CD, dx, _, _, rfl, D1.hd, O.clD, O.nLayers, doc_layers _ _ _ _, _, rfl, la, _, _, _, rfl, rfl, SqL.of D1.hla, atI_nat (v := V.ref y) (by rw [List.getElem?_map, hy]; rfl), y, CL, dy, _, rfl, g1, O.clL, O.nNumbers, (by show 2 < 1000; decide), ?_⟩
          rw [lay_put]
          have nS : a ≠ d ∧ a ≠ la ∧ a ≠ oa := ⟨fun z => na (z ▸ D.sd), fun z => na (z ▸ D.sla), fun z => na (z ▸ D.soa)⟩
          have nay : a ≠ y := fun z => na (z ▸ t1.1)
          have ha2 : (upd H1 y (.ins CL dy (layF (.ref n) (.ref a)))) a = some (.lst (nv b)) := by
            rw [upd_ne nay]
            exact s1 _ _ ha
          have hd2 : (upd H1 y (.ins CL dy (layF (.ref n) (.ref a)))) d = some (.ins CD dx (docF (.int (x.w : Int)) (.int (x.h : Int)) (.ref la) (.ref oa))) := by
            rw [upd_ne (fun z => t1.2.1 z.symm)]
            exact D1.hd
          have D2 := D1.setCells (H' := upd H1 y (.ins CL dy (layF (.ref n) (.ref a)))) (S' := Sx H S (the a) (upd H1 y (.ins CL dy (layF (.ref n) (.ref a))))) (r := b) hy hl (fun b o _ nb h => by rw [upd_ne nb]; exact h) Sx.old ⟨_, g1⟩ g2 t2 ⟨.inr (.inl rfl), nS⟩ ha2 upd_same t1 (Sx.dom D.dom (the_ne ha) (grows_upd (same_grows s1)))
          have k2 : Keeps H S (upd H1 y (.ins CL dy (layF (.ref n) (.ref a)))) := fun b o hb nb => by
            rw [upd_ne (show b ≠ y from fun z => nb (by rw [z]; exact t1.1))]
            exact s1 b o hb
          refine ⟨_, rfl, _, rfl, d, CD, dx, _, _, rfl, hd2, O.clD, O.nColumns, doc_columns _ _ _ _, a, b, x.w, x.h, rfl, ha2, cl, W.w1, W.w8, W.h1, W.h8, h8, fun H3 p3 s3 np3 hp3 => ?_⟩
          refine ⟨p3, _, rfl, .inl (SqL.of hp3), (by show 1 ≤ sizeLine; decide), fun p np => ?_⟩
          rw [nv_len]
          rw [if_neg (by rw [hb]; simp [cl])] at es
          refine q.put (l := Ie11.ints [(rowsTo x.w b x.h).length]) (⟨dx, la, oa, as, bs, D2.same s3⟩ : DocAt CL CD H3 _ d _) (W.setCells hl cl h8) es (fun b o hb nb => s3 b o (k2 b o hb nb)) (Sx.grow _ _ _ _) (fun b hb => same_grows s3 b (grows_upd (same_grows s1) b hb)) np
/-! ### other -/
/-- other: slots 0 document 1 kind 2 some_bytes -/
abbrev s_other : Stmt := top 98
abbrev N_other : List Str := ["document", "kind", "some_bytes"]
theorem sc_other : FnScope N_other ["document", "kind", "some_bytes"] (defScope s_other) := ⟨rfl, rfl, rfl, by decide +kernel, rfl, by decide +kernel, by decide +kernel⟩
def spOther (CL CD : Addr) : Sp := fun vs H Q _ => ∃ (d a : Addr) (x : Ie11.Doc) (S : Addr → Prop) (k : Nat) (b : NL), vs = [.ref d, .int (k : Int), .ref a] ∧ DocAt CL CD H S d x ∧ Wf x ∧ H a = some (.lst (nv b)) ∧ b.length ≤ 3000 ∧ ¬ S a ∧ Done CL CD H S (the a) d x (.other k b) Q
theorem ok_other {f : Addr} {fd : FuncData} (T : Txt K mg) (O : Obs K CL CD) (C_are_bytes : Callee P w K mg base 1 "are_bytes" ["numbers"] spAreBytes)
    (F : Fun K "other" "other" s_other f fd) : FnOk P w K mg base CX0 2 f fd ["document", "kind", "some_bytes"] (spOther CL CD) := by
  refine F.ok sc_other (fun vs H Q E h => ?_) (fun cdv A outer s H vs Q E hr h => ?_)
  · obtain ⟨d, a, x, S, k, b, rfl, _⟩ := h
    rfl
  · obtain ⟨d, a, x, S, k, b, rfl, DA, W, ha, hlen, na, q⟩ := h
    refine ⟨_, (pss_cons (ps_if (PW.pt (pw_or (pt_not (pt_chain op_lt op_le (pe_k T.c_LAYER_KIND) (pv 1) (pe_k T.c_MOST_BYTE))) (pw_or (pt_cmpR op_gt (pe_callB call_len_seq (by rfl) T.b_len PySem.boot_len (pa_cons (pv 2) pa_nil)) (pe_k T.c_MOST_OTHER_BYTES) (nomark _)) (pw_or1 (pt_not (pt_val (pe_cc C_are_bytes (hr.mono (by decide)) (pa_cons (pv 2) pa_nil))))))))
      (pss_one (ps_ret (pe_lst (pa_cons (pe_k T.c_ILL_FORMED) pa_nil))))
      pss_nil)
      (pss_cons (ps_if (pt_cmpR op_eq (pe_callB call_len_seq (by rfl) T.b_len PySem.boot_len (pa_cons (pe_fld (pv 0) rfl) pa_nil)) (pe_k T.c_MOST_OTHERS) (nomark _))
      (pss_one (ps_ret (pe_lst (pa_cons (pe_k T.c_FULL) pa_nil))))
      pss_nil)
      (pss_cons (ps_expr (pe_bm PySem.F.plainAttrs_list PySem.F.slot_list_append PySem.F.type_list_append mt_append (pe_fld (pv 0) rfl) (pa_cons (pe_tup (pa_cons (pv 1) (pa_cons (pv 2) pa_nil))) pa_nil)))
      (pss_one (ps_ret (pe_lst (pa_cons (pe_op op_sub (pe_callB call_len_seq (by rfl) T.b_len PySem.boot_len (pa_cons (pe_fld (pv 0) rfl) pa_nil)) pe_int) pa_nil))))))), ?_⟩
    obtain ⟨dx, la, oa, as, bs, D⟩ := id DA
    have bad : ∀ H1, (k < 3 ∨ 255 < k ∨ 40 < b.length ∨ Ie11.isBytes b = false) → Same H H1 → (∀ p, H1 p = none → Q (.ref p) (upd H1 p (.lst [.int (-2)]))) := fun H1 hc s1 p np => by
      refine q.same (l := [-2]) DA W ?_ s1 np
      rw [step_other, if_pos hc]
    refine ⟨_, rfl, _, _, rfl, rfl, _, rfl, ite2 (fun c => ?_) (fun c => ?_)⟩
    · have c := of_decide_eq_true c
      refine ⟨_, _, rfl, rfl, _, rfl, ?_⟩
      by_cases c2 : k ≤ 255
      case neg =>
        rw [decide_eq_false (by omega : ¬ (k : Int) ≤ 255)]
        refine iteT (iteT ⟨(by show 1 ≤ sizeLine; decide), fun p np => ?_⟩)
        exact bad H (.inr (.inl (by omega))) (Same.refl _) p np
      case pos =>
        rw [decide_eq_true (by omega : (k : Int) ≤ 255)]
        refine iteF ?_
        refine ⟨_, rfl, a, nv b, rfl, .inl (SqL.of ha), _, _, rfl, rfl, _, rfl, ite2 (fun c3 => ?_) (fun c3 => ?_)⟩
        · refine iteT ⟨(by show 1 ≤ sizeLine; decide), fun p np => ?_⟩
          have := of_decide_eq_true c3
          rw [nv_len] at this
          exact bad H (.inr (.inr (.inl (by omega)))) (Same.refl _) p np
        · have c40 : ¬ 40 < b.length := fun z => c3 (decide_eq_true (by rw [nv_len]; omega))
          refine ⟨_, rfl, a, b, rfl, ha, hlen, fun H1 s1 => ⟨_, rfl, ?_⟩⟩
          cases hb : Ie11.isBytes b with
          | false =>
            refine iteT ⟨(by show 1 ≤ sizeLine; decide), fun p np => ?_⟩
            exact bad H1 (.inr (.inr (.inr hb))) s1 p np
          | true =>
            refine iteF ?_
            have D1 := D.same s1
            have ok : ¬ (k < 3 ∨ 255 < k ∨ 40 < b.length ∨ Ie11.isBytes b = false) := by
              rw [hb]
              simp
              omega
            refine ⟨_, rfl, d, CD, dx, _, _, rfl, D1.hd, O.clD, O.nOthers, doc_others _ _ _ _, oa, _, rfl, .inl (SqL.of D1.hoa), rfl, _, rfl, ite2 (fun c6 => ?_) (fun c6 => ?_)⟩
            · refine ⟨(by show 1 ≤ sizeLine; decide), fun p np => ?_⟩
              refine q.same (l := [-5]) DA W ?_ s1 np
              have := V.int.inj (of_decide_eq_true c6)
              rw [List.length_map, D.oths.len] at this
              rw [step_other, if_neg ok, if_pos (by omega)]
            · have h6 : ¬ 6 ≤ x.others.length := fun z => c6 (decide_eq_true (by
                have := W.no
                rw [List.length_map, D.oths.len, show x.others.length = 6 by omega]
                rfl))
              refine ⟨_, rfl, d, CD, dx, _, _, rfl, D1.hd, O.clD, O.nOthers, doc_others _ _ _ _, .inl ⟨rfl, _, SqL.of D1.hoa⟩, _, rfl, _, rfl, (by show 2 ≤ sizeLine; decide), fun t nt => ?_⟩
              have s2 := Same.trans s1 (same_upd (o := .tup [.int (k : Int), .ref a]) nt)
              refine ⟨oa, _, _, rfl, rfl, s2 _ _ D.hoa, smalls (by rw [List.length_map, D.oths.len]; omega), ?_⟩
              obtain ⟨D3, k3⟩ := put_other (R := the a) D s2 (s1.free nt) rfl na (the_ne ha) upd_same (s2 _ _ ha)
              have hd3 : (upd (upd H1 t (.tup [.int (k : Int), .ref a])) oa (.lst (bs.map V.ref ++ [.ref t]))) d = some (.ins CD dx (docF (.int (x.w : Int)) (.int (x.h : Int)) (.ref la) (.ref oa))) := by
                rw [upd_ne D.ndoa]
                exact s2 _ _ D.hd
              refine ⟨_, rfl, d, CD, dx, _, _, rfl, hd3, O.clD, O.nOthers, doc_others _ _ _ _, oa, _, rfl, .inl (SqL.of upd_same), _, _, rfl, rfl, (by show 1 ≤ sizeLine; decide), fun p np => ?_⟩
              have ea : (((bs.map V.ref ++ [V.ref t]).length : Nat) : Int) - 1 = (x.others.length : Int) := by
                rw [List.length_append, List.length_map, D.oths.len]
                simp
              show Q (.ref p) (upd _ p (.lst [.int ((((bs.map V.ref ++ [V.ref t]).length : Nat) : Int) - 1)]))
              rw [ea]
              refine q.put (l := Ie11.ints [x.others.length]) D3 (W.addOther h6 (by show b.length ≤ 3000; omega)) ?_ k3 (Sx.grow _ _ _ _) (grows_upd (same_grows s2)) np
              rw [step_other, if_neg ok, if_neg h6]
    · refine ⟨_, rfl, iteT (iteT ⟨(by show 1 ≤ sizeLine; decide), fun p np => ?_⟩)⟩
      exact bad H (.inl (by by_cases z : k < 3; exact z; exact absurd (decide_eq_true (by omega)) c)) (Same.refl _) p np
/-! ### drop -/
theorem map_erase {α β : Type} (g : α → β) : ∀ (l : List α) (i : Nat), (l.map g).eraseIdx i = (l.eraseIdx i).map g
  | [], _ => rfl
  | _ :: _, 0 => rfl
  | a :: l, i + 1 => by rw [List.map_cons, List.eraseIdx_cons_succ, List.eraseIdx_cons_succ, List.map_cons, map_erase g l i]
/-- drop: slots 0 document 1 i -/
abbrev s_drop : Stmt := top 99
abbrev N_drop : List Str := ["document", "i"]
theorem sc_drop : FnScope N_drop ["document", "i"] (defScope s_drop) := ⟨rfl, rfl, rfl, by decide +kernel, rfl, by decide +kernel, by decide +kernel⟩
def spDrop (CL CD : Addr) : Sp := fun vs H Q _ => ∃ (d : Addr) (x : Ie11.Doc) (S R : Addr → Prop) (i : Nat), vs = [.ref d, .int (i : Int)] ∧ DocAt CL CD H S d x ∧ Wf x ∧ Done CL CD H S R d x (.drop i) Q
theorem ok_drop {f : Addr} {fd : FuncData} (T : Txt K mg) (O : Obs K CL CD) (F : Fun K "drop" "drop" s_drop f fd) : FnOk P w K mg base CX0 1 f fd ["document", "i"] (spDrop CL CD) := by
  refine F.ok sc_drop (fun vs H Q E h => ?_) (fun cdv A outer s H vs Q E hr h => ?_)
  · obtain ⟨d, x, S, R, i, rfl, _⟩ := h
    rfl
  · obtain ⟨d, x, S, R, i, rfl, DA, W, q⟩ := h
    refine ⟨_, (pss_cons (ps_if (pt_cmpR op_ge (pv 1) (pe_callB call_len_seq (by rfl) T.b_len PySem.boot_len (pa_cons (pe_fld (pv 0) rfl) pa_nil)) (nomark _))
      (pss_one (ps_ret (pe_lst (pa_cons (pe_k T.c_OUT_OF_RANGE) pa_nil))))
      pss_nil)
      (pss_cons (ps_expr (pe_bm PySem.F.plainAttrs_list PySem.F.slot_list_pop PySem.F.type_list_pop mt_popAt (pe_fld (pv 0) rfl) (pa_cons (pv 1) pa_nil)))
      (pss_one (ps_ret (pe_lst (pa_cons (pe_callB call_len_seq (by rfl) T.b_len PySem.boot_len (pa_cons (pe_fld (pv 0) rfl) pa_nil)) pa_nil)))))), ?_⟩
    obtain ⟨dx, la, oa, as, bs, D⟩ := id DA
    refine ⟨_, rfl, _, rfl, d, CD, dx, _, _, rfl, D.hd, O.clD, O.nLayers, doc_layers _ _ _ _, la, _, rfl, .inl (SqL.of D.hla), _, _, rfl, rfl, _, rfl, ite2 (fun c => ?_) (fun c => ?_)⟩
    · refine ⟨(by show 1 ≤ sizeLine; decide), fun p np => ?_⟩
      have := of_decide_eq_true c
      rw [List.length_map, D.lays.len] at this
      refine q.same (l := [-1]) DA W ?_ (Same.refl _) np
      rw [step_drop, if_pos (by omega)]
    · have hi : i < x.layers.length := by
        by_cases z : i < x.layers.length
        · exact z
        · exact absurd (decide_eq_true (by rw [List.length_map, D.lays.len]; omega)) c
      obtain ⟨y, hy⟩ : ∃ y, as[i]? = some y := ⟨_, List.getElem?_eq_getElem (by rw [D.lays.len]; exact hi)⟩
      have six := W.nl
      have sq : seqIndex? (i : Int) (as.map V.ref).length = some i := by
        unfold seqIndex?
        rw [List.length_map, D.lays.len]
        have e0 : (if (i : Int) < 0 then (i : Int) + (x.layers.length : Int) else (i : Int)) = (i : Int) := if_neg (by omega)
        simp only [e0]
        have e1 : (decide (0 ≤ (i : Int)) && decide ((i : Int) < (x.layers.length : Int))) = true := by
          simp
          omega
        rw [if_pos e1]
        rfl
      refine ⟨_, rfl, d, CD, dx, _, _, rfl, D.hd, O.clD, O.nLayers, doc_layers _ _ _ _, .inl ⟨rfl, _, SqL.of D.hla⟩, _, rfl, la, _, _, i, .ref y, rfl, rfl, D.hla, by omega, by omega, sq, by rw [List.getElem?_map, hy]; rfl, ?_⟩
      have hd2 : (upd H la (.lst ((as.map V.ref).eraseIdx i))) d = some (.ins CD dx (docF (.int (x.w : Int)) (.int (x.h : Int)) (.ref la) (.ref oa))) := by
        rw [upd_ne D.ndla]
        exact D.hd
      have ee : (as.map V.ref).eraseIdx i = (as.eraseIdx i).map V.ref := map_erase V.ref as i
      have D2 := D.dropLayer (H' := upd H la (.lst ((as.map V.ref).eraseIdx i))) (i := i) (fun b o _ nb h => by rw [upd_ne nb]; exact h) (by rw [upd_same, ee]) (fun b hb => grows_upd (fun _ h => h) b (D.dom b hb))
      refine ⟨_, rfl, d, CD, dx, _, _, rfl, hd2, O.clD, O.nLayers, doc_layers _ _ _ _, la, _, rfl, .inl (SqL.of upd_same), (by show 1 ≤ sizeLine; decide), fun p np => ?_⟩
      have ea : (((as.map V.ref).eraseIdx i).length : Int) = ((x.layers.length - 1 : Nat) : Int) := by
        rw [List.length_eraseIdx, List.length_map, D.lays.len, if_pos hi]
      rw [ea]
      refine q.put (l := Ie11.ints [x.layers.length - 1]) (⟨dx, la, oa, _, bs, D2⟩ : DocAt CL CD _ S d _) (W.dropLayer i) ?_ (fun b o hb nb => ?_) (fun b hb => .inl hb) (grows_upd fun _ h => h) np
      · rw [step_drop, if_neg (by omega)]
      · rw [upd_ne (show b ≠ la from fun z => nb (by rw [z]; exact D.sla))]
        exact hb
/-! ### write -/
/-- write: slots 0 document 1 written -/
abbrev s_write : Stmt := top 100
abbrev N_write : List Str := ["document", "written"]
theorem sc_write : FnScope N_write ["document"] (defScope s_write) := ⟨rfl, rfl, rfl, by decide +kernel, rfl, by decide +kernel, by decide +kernel⟩
def spWrite (CL CD : Addr) : Sp := fun vs H Q _ => ∃ (d : Addr) (x : Ie11.Doc) (S R : Addr → Prop), vs = [.ref d] ∧ DocAt CL CD H S d x ∧ Wf x ∧ Done CL CD H S R d x .write Q
theorem write_len {x : Ie11.Doc} (W : Wf x) : (Ie11.write x).length ≤ 20000 := by
  have a := laysB_len (x := x) x.layers fun l hl => by
    have := W.lay l hl
    rw [← lbody_eq]
    exact lbody_len this.1 this.2.1 W.w8 W.h8
  have b := othsB_len x.others W.oth
  have := W.nl
  have := W.no
  rw [write_eq, List.length_append, List.length_append, List.length_append, part_len]
  unfold headB
  rw [List.length_append, part_len]
  simp only [List.length_cons, List.length_nil]
  omega
theorem ok_write {f : Addr} {fd : FuncData} (T : Txt K mg) (C_written_file : Callee P w K mg base 8 "written_file" ["document"] (spWriteFile CL CD)) (F : Fun K "write" "write" s_write f fd) : FnOk P w K mg base CX0 9 f fd ["document"] (spWrite CL CD) := by
  refine F.ok sc_write (fun vs H Q E h => ?_) (fun cdv A outer s H vs Q E hr h => ?_)
  · obtain ⟨d, x, S, R, rfl, _⟩ := h
    rfl
  · obtain ⟨d, x, S, R, rfl, DA, W, q⟩ := h
    refine ⟨_, (pss_cons (ps_set (i := 1) sc_write.nd rfl (Or.inl rfl) (pe_cc C_written_file (hr.mono (by decide)) (pa_cons (pv 0) pa_nil)))
      (pss_one (ps_ret (pe_op op_cat (pe_lst (pa_cons (pe_callB call_len_seq (by rfl) T.b_len PySem.boot_len (pa_cons (pv 1) pa_nil)) pa_nil)) (pv 1))))), ?_⟩
    have wl := write_len W
    refine ⟨_, rfl, d, x, S, rfl, DA, W, fun H1 p1 s1 np1 hp1 => ?_⟩
    refine ⟨_, rfl, p1, _, rfl, .inl (SqL.of hp1), (by show 1 ≤ sizeLine; decide), fun z nz => ?_⟩
    have s2 := Same.trans s1 (same_upd (o := .lst [.int ((nv (Ie11.write x)).length : Int)]) nz)
    refine ⟨_, rfl, z, p1, _, _, rfl, rfl, upd_same, same_upd nz _ _ hp1, small (by rw [nv_len]; simp; omega), fun p np => ?_⟩
    have e : [V.int ((nv (Ie11.write x)).length : Int)] ++ nv (Ie11.write x) = iv (Ie11.ints ((Ie11.write x).length :: Ie11.write x)) := by
      rw [iv_ints, nv_len]
      rfl
    rw [e]
    exact q.same DA W (step_write x) s2 np
/-! ### how_it_stands -/
/-- how_it_stands: slots 0 document -/
abbrev s_how_it_stands : Stmt := top 103
abbrev N_how_it_stands : List Str := ["document"]
theorem sc_how_it_stands : FnScope N_how_it_stands ["document"] (defScope s_how_it_stands) := ⟨rfl, rfl, rfl, by decide +kernel, rfl, by decide +kernel, by decide +kernel⟩
def spStands (CL CD : Addr) : Sp := fun vs H Q _ => ∃ (d : Addr) (x : Ie11.Doc) (S : Addr → Prop), vs = [.ref d] ∧ DocAt CL CD H S d x ∧ ∀ p, H p = none → Q (.ref p) (upd H p (.lst (iv (Ie11.told x))))
theorem ok_how_it_stands {f : Addr} {fd : FuncData} (T : Txt K mg) (O : Obs K CL CD) (F : Fun K "how_it_stands" "how_it_stands" s_how_it_stands f fd) : FnOk P w K mg base CX0 1 f fd ["document"] (spStands CL CD) := by
  refine F.ok sc_how_it_stands (fun vs H Q E h => ?_) (fun cdv A outer s H vs Q E hr h => ?_)
  · obtain ⟨d, x, S, rfl, _⟩ := h
    rfl
  · obtain ⟨d, x, S, rfl, ⟨dx, la, oa, as, bs, D⟩, q⟩ := h
    refine ⟨_, (pss_one (ps_ret (pe_lst (pa_cons (pe_fld (pv 0) rfl) (pa_cons (pe_fld (pv 0) rfl) (pa_cons (pe_callB call_len_seq (by rfl) T.b_len PySem.boot_len (pa_cons (pe_fld (pv 0) rfl) pa_nil)) (pa_cons (pe_callB call_len_seq (by rfl) T.b_len PySem.boot_len (pa_cons (pe_fld (pv 0) rfl) pa_nil)) pa_nil))))))), ?_⟩
    refine ⟨_, rfl, d, CD, dx, _, _, rfl, D.hd, O.clD, O.nColumns, doc_columns _ _ _ _, _, rfl, d, CD, dx, _, _, rfl, D.hd, O.clD, O.nRows, doc_rows _ _ _ _, _, rfl, d, CD, dx, _, _, rfl, D.hd, O.clD, O.nLayers, doc_layers _ _ _ _, la, _, rfl, .inl (SqL.of D.hla), _, rfl, d, CD, dx, _, _, rfl, D.hd, O.clD, O.nOthers, doc_others _ _ _ _, oa, _, rfl, .inl (SqL.of D.hoa), (by show 4 ≤ sizeLine; decide), fun p np => ?_⟩
    rw [List.length_map, List.length_map, D.lays.len, D.oths.len]
    exact q p np
/-! ### read -/
/-- read: slots 0 document 1 some_bytes 2 read_one 3 fault 4 at -/
abbrev s_read : Stmt := top 101
abbrev N_read : List Str := ["document", "some_bytes", "read_one", "fault", "at"]
theorem sc_read : FnScope N_read ["document", "some_bytes"] (defScope s_read) := ⟨rfl, rfl, rfl, by decide +kernel, rfl, by decide +kernel, by decide +kernel⟩
def spRead (CL CD : Addr) : Sp := fun vs H Q _ => ∃ (d a : Addr) (x : Ie11.Doc) (S R : Addr → Prop) (b : NL), vs = [.ref d, .ref a] ∧ DocAt CL CD H S d x ∧ Wf x ∧ (∀ b, R b → H b ≠ none) ∧ H a = some (.lst (nv b)) ∧ b.length ≤ 3000 ∧ Done CL CD H S R d x (.read b) Q
theorem ok_read {f : Addr} {fd : FuncData} (T : Txt K mg) (O : Obs K CL CD) (C_are_bytes : Callee P w K mg base 1 "are_bytes" ["numbers"] spAreBytes) (C_read_file : Callee P w K mg base 7 "read_file" ["some_bytes"] (spReadFile CL CD)) (M_become : Method P w K mg base 1 "become" CD ["self", "another"] (spBecome CD))
    (C_how_it_stands : Callee P w K mg base 1 "how_it_stands" ["document"] (spStands CL CD)) (F : Fun K "read" "read" s_read f fd) : FnOk P w K mg base CX0 8 f fd ["document", "some_bytes"] (spRead CL CD) := by
  refine F.ok sc_read (fun vs H Q E h => ?_) (fun cdv A outer s H vs Q E hr h => ?_)
  · obtain ⟨d, a, x, S, R, b, rfl, _⟩ := h
    rfl
  · obtain ⟨d, a, x, S, R, b, rfl, DA, W, hR, ha, hlen, q⟩ := h
    refine ⟨_, (pss_cons (ps_if (pt_not (pt_val (pe_cc C_are_bytes (hr.mono (by decide)) (pa_cons (pv 1) pa_nil))))
      (pss_one (ps_ret (pe_lst (pa_cons (pe_k T.c_ILL_FORMED) pa_nil))))
      pss_nil)
      (pss_cons (ps_asg (pe_cc C_read_file (hr.mono (by decide)) (pa_cons (pv 1) pa_nil)) (pg_tup (by rfl) (pgs_cons (pg_name (i := 2) sc_read.nd rfl (Or.inl rfl)) (pgs_cons (pg_name (i := 3) sc_read.nd rfl (Or.inl rfl)) (pgs_cons (pg_name (i := 4) sc_read.nd rfl (Or.inl rfl)) pgs_nil)))))
      (pss_cons (ps_if (pt_cmpR op_ne (pv 3) (pe_k T.c_NO_FAULT) (nomark _))
      (pss_one (ps_ret (pe_lst (pa_cons (pe_op op_sub (pe_k T.c_FAULTS_FROM) (pv 3)) (pa_cons (pv 4) pa_nil)))))
      pss_nil)
      (pss_cons (ps_expr (pe_mtc (pv 0) M_become (hr.mono (by decide)) (pa_cons (pv 2) pa_nil)))
      (pss_one (ps_ret (pe_cc C_how_it_stands (hr.mono (by decide)) (pa_cons (pv 0) pa_nil)))))))), ?_⟩
    obtain ⟨dx, la, oa, as, bs, D⟩ := id DA
    refine ⟨_, rfl, a, b, rfl, ha, hlen, fun H1 s1 => ⟨_, rfl, ?_⟩⟩
    cases hb : Ie11.isBytes b with
    | false =>
      refine iteT ⟨(by show 1 ≤ sizeLine; decide), fun p np => ?_⟩
      exact q.same (l := [-2]) DA W (step_read_bad x hb) s1 np
    | true =>
      refine iteF ?_
      refine ⟨_, rfl, a, b, rfl, s1 _ _ ha, hlen, isBytes_b8 hb, fun g er hg H2 p2 e2 s2 hp2 => ?_, fun y er Wy H2 p2 e2 n S2 s2 hp2 D2 f2 => ?_⟩
      · refine ⟨p2, _, rfl, SqT.of hp2, rfl, _, _, rfl, _, _, rfl, _, _, rfl, rfl, ?_⟩
        have e1 : (!decide (V.int (g.1 : Int) = V.int 0)) = true := by
          have : ¬ V.int (g.1 : Int) = V.int 0 := fun z => hg (by have := V.int.inj z; omega)
          simp [this]
        refine ⟨_, rfl, rfl, _, rfl, ?_⟩
        rw [e1]
        refine iteT ⟨_, rfl, _, _, rfl, rfl, _, rfl, (by show 2 ≤ sizeLine; decide), fun p np => ?_⟩
        show Q (.ref p) (upd H2 p (.lst [.int (-10 - (g.1 : Int)), .int (g.2 : Int)]))
        rw [show -10 - (g.1 : Int) = -(g.1 : Int) - 10 by omega]
        exact q.same DA W (step_read_error x hb er) (Same.trans s1 s2) np
      · refine ⟨p2, _, rfl, SqT.of hp2, rfl, _, _, rfl, _, _, rfl, _, _, rfl, rfl, ?_⟩
        refine ⟨_, rfl, rfl, _, rfl, iteF ?_⟩
        have s12 := Same.trans s1 s2
        obtain ⟨dy, la', oa', as', bs', E2⟩ := id D2
        have hdn : ¬ S2 d := fun z => by
          have := s1 _ _ D.hd
          rw [f2 d z] at this
          cases this
        have nde : d ≠ e2 := fun z => hdn (z ▸ E2.sd)
        refine ⟨_, rfl, d, dx, _, rfl, s12 _ _ D.hd, doc_become _ _ _ _, _, rfl, d, dx, e2, dy, _, _, _, _, _, _, _, _, rfl, nde, s12 _ _ D.hd, E2.hd, fun H4 h4 but4 => ?_⟩
        have D4 := become_doc (D.same s12) E2 hdn h4 but4
        refine ⟨_, rfl, d, y, _, rfl, D4, fun p np => ?_⟩
        refine q.put D4 Wy (step_read_ok x hb er) (fun c o hc nc => but4 c o (s12 c o hc) fun z => nc (z ▸ D.sd)) (fun c hc => ?_) (fun c hc z => ?_) np
        · rcases hc with hc | hc
          · exact .inl hc
          · exact .inr (.inr (s1.free (f2 c hc)))
        · by_cases ec : c = d
          · rw [ec, h4] at z
            cases z
          · cases u : H2 c with
            | none => exact same_grows s12 c hc u
            | some o =>
              rw [but4 c o u ec] at z
              cases z
end
end Pf
end
section
set_option Elab.async false
set_option linter.all false
set_option maxRecDepth 100000
set_option maxHeartbeats 4000000
namespace Pf
open PySem PySem.Spec PyProof.Rows L2
section
variable (x : Ie11.Doc)
theorem step_mend_bad {b : NL} (h : Ie11.isBytes b = false) : Ie11.step x (.mend b) = (x, [-2]) := if_pos h
theorem step_mend_some {b : NL} {y : Ie11.Doc} (h : Ie11.isBytes b = true) (e : Ie11.mended b = some y) : Ie11.step x (.mend b) = (y, Ie11.told y) := by
  show (if Ie11.isBytes b = false then (x, [-2]) else (match Ie11.mended b with
    | none => (x, [-13])
    | some x => (x, Ie11.told x))) = _
  rw [if_neg (by rw [h]; simp), e]
theorem step_mend_none {b : NL} (h : Ie11.isBytes b = true) (e : Ie11.mended b = none) : Ie11.step x (.mend b) = (x, [-13]) := by
  show (if Ie11.isBytes b = false then (x, [-2]) else (match Ie11.mended b with
    | none => (x, [-13])
    | some x => (x, Ie11.told x))) = _
  rw [if_neg (by rw [h]; simp), e]
def showsL (ls : List Ie11.Layer) : NL := ls.flatMap fun l => [l.name.length, l.cells.foldl (fun a b => a + b) 0]
theorem step_shows : Ie11.step x .shows = (x, Ie11.told x ++ Ie11.ints (showsL x.layers)) := rfl
theorem step_look_none {i : Nat} (h : x.layers[i]? = none) : Ie11.step x (.look i) = (x, [-1]) := by
  show (x, match x.layers[i]? with
    | none => [-1]
    | some l => Ie11.ints (l.name.length :: (l.name ++ l.cells))) = _
  rw [h]
theorem step_look_some {i : Nat} {l : Ie11.Layer} (h : x.layers[i]? = some l) : Ie11.step x (.look i) = (x, Ie11.ints (l.name.length :: (l.name ++ l.cells))) := by
  show (x, match x.layers[i]? with
    | none => [-1]
    | some l => Ie11.ints (l.name.length :: (l.name ++ l.cells))) = _
  rw [h]
def othersL (ps : List Ie11.Part) : NL := ps.flatMap fun p => p.kind :: p.body.length :: p.body
theorem step_others : Ie11.step x .others = (x, Ie11.ints (x.others.length :: othersL x.others)) := rfl
theorem step_short_bad {l : NL} (h : Ie11.isBytes l = false ∨ 400 < l.length) : Ie11.step x (.short l) = (x, [-2]) := by
  show (x, if Ie11.isBytes l = false ∨ 400 < l.length then [-2] else Ie11.ints (Ie11.shortOf l)) = _
  rw [if_pos h]
theorem step_short {l : NL} (h : ¬ (Ie11.isBytes l = false ∨ 400 < l.length)) : Ie11.step x (.short l) = (x, Ie11.ints (Ie11.shortOf l)) := by
  show (x, if Ie11.isBytes l = false ∨ 400 < l.length then [-2] else Ie11.ints (Ie11.shortOf l)) = _
  rw [if_neg h]
theorem step_long_bad {n : Nat} {b : NL} (h : Ie11.isBytes b = false ∨ 400 < n) : Ie11.step x (.long n b) = (x, [-2]) := by
  show (x, if Ie11.isBytes b = false ∨ 400 < n then [-2] else match Ie11.long n n b with
    | none => [-6]
    | some q => if q.2.isEmpty then Ie11.ints q.1 else [-6]) = _
  rw [if_pos h]
theorem step_long_not {n : Nat} {b : NL} (h : ¬ (Ie11.isBytes b = false ∨ 400 < n)) (e : ∀ s, Ie11.long n n b = some s → s.2 ≠ []) : Ie11.step x (.long n b) = (x, [-6]) := by
  show (x, if Ie11.isBytes b = false ∨ 400 < n then [-2] else match Ie11.long n n b with
    | none => [-6]
    | some q => if q.2.isEmpty then Ie11.ints q.1 else [-6]) = _
  rw [if_neg h]
  cases hl : Ie11.long n n b with
  | none => rfl
  | some s =>
    simp only []
    rw [if_neg fun z => e s hl (List.isEmpty_iff.mp z)]
theorem step_long {n : Nat} {b : NL} {s : NL × NL} (h : ¬ (Ie11.isBytes b = false ∨ 400 < n)) (e : Ie11.long n n b = some s) (e2 : s.2 = []) : Ie11.step x (.long n b) = (x, Ie11.ints s.1) := by
  show (x, if Ie11.isBytes b = false ∨ 400 < n then [-2] else match Ie11.long n n b with
    | none => [-6]
    | some q => if q.2.isEmpty then Ie11.ints q.1 else [-6]) = _
  rw [if_neg h, e]
  simp only []
  rw [if_pos (by rw [e2]; rfl)]
end
section
variable {CL CD : Addr} {H H1 : Hp} {S R : Addr → Prop} {d p : Addr} {x : Ie11.Doc} {c : Ie11.Call} {l : List Int} {Q : VK}
/-- an answer that stands already, and leaves the document as it was -/
theorem Done.at_ (q : Done CL CD H S R d x c Q) (D : DocAt CL CD H S d x) (W : Wf x) (e : Ie11.step x c = (x, l)) (s : Same H H1) (n : H p = none) (h : H1 p = some (.lst (iv l))) : Q (.ref p) H1 := by
  refine q _ S p ?_ ?_ (.of_same s) (fun _ h => .inl h) ?_ n (fun z => D.dom _ z n)
  · rw [e]
    exact D.same s
  · rw [e]
    exact W
  · rw [e]
    exact h
end
section
variable {P : Program} {w : World} {K : PySem.W.Frag} {mg : Str → Option Value} {base : Heap} {CL CD : Addr}
/-! ### mend -/
/-- mend: slots 0 document 1 some_bytes 2 saved -/
abbrev s_mend : Stmt := top 102
abbrev N_mend : List Str := ["document", "some_bytes", "saved"]
theorem sc_mend : FnScope N_mend ["document", "some_bytes"] (defScope s_mend) := ⟨rfl, rfl, rfl, by decide +kernel, rfl, by decide +kernel, by decide +kernel⟩
def spMend (CL CD : Addr) : Sp := fun vs H Q _ => ∃ (d a : Addr) (x : Ie11.Doc) (S R : Addr → Prop) (b : NL), vs = [.ref d, .ref a] ∧ DocAt CL CD H S d x ∧ Wf x ∧ H a = some (.lst (nv b)) ∧ b.length ≤ 3000 ∧ Done CL CD H S R d x (.mend b) Q
theorem ok_mend {f : Addr} {fd : FuncData} (T : Txt K mg) (O : Obs K CL CD) (C_are_bytes : Callee P w K mg base 1 "are_bytes" ["numbers"] spAreBytes) (C_mended : Callee P w K mg base 6 "mended" ["some_bytes"] (spMended CL CD)) (M_become : Method P w K mg base 1 "become" CD ["self", "another"] (spBecome CD))
    (C_how_it_stands : Callee P w K mg base 1 "how_it_stands" ["document"] (spStands CL CD)) (F : Fun K "mend" "mend" s_mend f fd) : FnOk P w K mg base CX0 7 f fd ["document", "some_bytes"] (spMend CL CD) := by
  refine F.ok sc_mend (fun vs H Q E h => ?_) (fun cdv A outer s H vs Q E hr h => ?_)
  · obtain ⟨d, a, x, S, R, b, rfl, _⟩ := h
    rfl
  · obtain ⟨d, a, x, S, R, b, rfl, DA, W, ha, hlen, q⟩ := h
    refine ⟨_, (pss_cons (ps_if (pt_not (pt_val (pe_cc C_are_bytes (hr.mono (by decide)) (pa_cons (pv 1) pa_nil))))
      (pss_one (ps_ret (pe_lst (pa_cons (pe_k T.c_ILL_FORMED) pa_nil))))
      pss_nil)
      (pss_cons (ps_set (i := 2) sc_mend.nd rfl (Or.inl rfl) (pe_cc C_mended (hr.mono (by decide)) (pa_cons (pv 1) pa_nil)))
      (pss_cons (ps_if (pt_cmpR op_isN (pv 2) pe_non (nomark _))
      (pss_one (ps_ret (pe_lst (pa_cons (pe_k T.c_NO_PAGE) pa_nil))))
      pss_nil)
      (pss_cons (ps_expr (pe_mtc (pv 0) M_become (hr.mono (by decide)) (pa_cons (pv 2) pa_nil)))
      (pss_one (ps_ret (pe_cc C_how_it_stands (hr.mono (by decide)) (pa_cons (pv 0) pa_nil)))))))), ?_⟩
    obtain ⟨dx, la, oa, as, bs, D⟩ := id DA
    refine ⟨_, rfl, a, b, rfl, ha, hlen, fun H1 s1 => ⟨_, rfl, ?_⟩⟩
    cases hb : Ie11.isBytes b with
    | false =>
      refine iteT ⟨(by show 1 ≤ sizeLine; decide), fun p np => ?_⟩
      exact q.same (l := [-2]) DA W (step_mend_bad x hb) s1 np
    | true =>
      refine iteF ?_
      refine ⟨_, rfl, a, b, rfl, s1 _ _ ha, hlen, isBytes_b8 hb, fun er H2 s2 => ?_, fun y er Wy H2 e2 S2 s2 D2 f2 => ?_⟩
      · refine ⟨_, rfl, rfl, _, rfl, iteT ⟨(by show 1 ≤ sizeLine; decide), fun p np => ?_⟩⟩
        exact q.same (l := [-13]) DA W (step_mend_none x hb er) (Same.trans s1 s2) np
      · refine ⟨_, rfl, rfl, _, rfl, iteF ?_⟩
        have s12 := Same.trans s1 s2
        obtain ⟨dy, la', oa', as', bs', E2⟩ := id D2
        have hdn : ¬ S2 d := fun z => by
          have := s1 _ _ D.hd
          rw [f2 d z] at this
          cases this
        have nde : d ≠ e2 := fun z => hdn (z ▸ E2.sd)
        refine ⟨_, rfl, d, dx, _, rfl, s12 _ _ D.hd, doc_become _ _ _ _, _, rfl, d, dx, e2, dy, _, _, _, _, _, _, _, _, rfl, nde, s12 _ _ D.hd, E2.hd, fun H4 h4 but4 => ?_⟩
        have D4 := become_doc (D.same s12) E2 hdn h4 but4
        refine ⟨_, rfl, d, y, _, rfl, D4, fun p np => ?_⟩
        refine q.put D4 Wy (step_mend_some x hb er) (fun c o hc nc => but4 c o (s12 c o hc) fun z => nc (z ▸ D.sd)) (fun c hc => ?_) (fun c hc z => ?_) np
        · rcases hc with hc | hc
          · exact .inl hc
          · exact .inr (.inr (s1.free (f2 c hc)))
        · by_cases ec : c = d
          · rw [ec, h4] at z
            cases z
          · cases u : H2 c with
            | none => exact same_grows s12 c hc u
            | some o =>
              rw [but4 c o u ec] at z
              cases z
/-! ### shows -/
/-- shows: slots 0 document 1 shown 2 one -/
abbrev s_shows : Stmt := top 104
abbrev N_shows : List Str := ["document", "shown", "one"]
theorem sc_shows : FnScope N_shows ["document"] (defScope s_shows) := ⟨rfl, rfl, rfl, by decide +kernel, rfl, by decide +kernel, by decide +kernel⟩
def spShows (CL CD : Addr) : Sp := fun vs H Q _ => ∃ (d : Addr) (x : Ie11.Doc) (S R : Addr → Prop), vs = [.ref d] ∧ DocAt CL CD H S d x ∧ Wf x ∧ Done CL CD H S R d x .shows Q
theorem showsL_len : ∀ ls : List Ie11.Layer, (showsL ls).length = 2 * ls.length
  | [] => rfl
  | l :: ls => by
    have := showsL_len ls
    unfold showsL at this ⊢
    rw [List.flatMap_cons, List.length_append, this]
    simp
    omega
theorem ok_shows {f : Addr} {fd : FuncData} (T : Txt K mg) (O : Obs K CL CD) (C_how_it_stands : Callee P w K mg base 1 "how_it_stands" ["document"] (spStands CL CD)) (F : Fun K "shows" "shows" s_shows f fd) : FnOk P w K mg base CX0 2 f fd ["document"] (spShows CL CD) := by
  refine F.ok sc_shows (fun vs H Q E h => ?_) (fun cdv A outer s H vs Q E hr h => ?_)
  · obtain ⟨d, x, S, R, rfl, _⟩ := h
    rfl
  · obtain ⟨d, x, S, R, rfl, DA, W, q⟩ := h
    refine ⟨_, (pss_cons (ps_set (i := 1) sc_shows.nd rfl (Or.inl rfl) (pe_cc C_how_it_stands (hr.mono (by decide)) (pa_cons (pv 0) pa_nil)))
      (pss_cons (ps_for PassesOwn.never rfl (pi_list (pe_fld (pv 0) rfl)) (pg_name (i := 2) sc_shows.nd rfl (Or.inl rfl))
      (pss_cons (ps_expr (pe_bm PySem.F.plainAttrs_list PySem.F.slot_list_append PySem.F.type_list_append mt_append (pv 1) (pa_cons (pe_callB call_len_seq (by rfl) T.b_len PySem.boot_len (pa_cons (pe_fld (pv 2) rfl) pa_nil)) pa_nil)))
      (pss_one (ps_expr (pe_bm PySem.F.plainAttrs_list PySem.F.slot_list_append PySem.F.type_list_append mt_append (pv 1) (pa_cons (pe_callB (cr_sum rfl) (by rfl) T.b_sum (by decide +kernel) (pa_cons (pe_fld (pv 2) rfl) pa_nil)) pa_nil))))))
      (pss_one (ps_ret (pv 1))))), ?_⟩
    obtain ⟨dx, la, oa, as, bs, D⟩ := id DA
    refine ⟨_, rfl, d, x, S, rfl, DA, fun o no => ?_⟩
    have s1 : Same H (upd H o (.lst (iv (Ie11.told x)))) := same_upd no
    have tl : (iv (Ie11.told x)).length = 4 := rfl
    refine ⟨_, rfl, d, CD, dx, _, _, rfl, s1 _ _ D.hd, O.clD, O.nLayers, doc_layers _ _ _ _, la, rfl, ⟨_, SqL.of (s1 _ _ D.hla)⟩, for_list (K := K) (a := la) (xs := as.map V.ref) (fun i σ H' => Same H H' ∧ ∃ v2 : Option V, σ = [some (.ref d), some (.ref o), v2] ∧ H' o = some (.lst (iv (Ie11.told x) ++ nv (showsL (x.layers.take i)))))
      ⟨s1, none, rfl, ?_⟩ (fun i σ H' _ ⟨s5, _⟩ => SqL.of (s5 _ _ D.hla)) ?_ ?_⟩
    · rw [upd_same]
      simp [showsL, nv]
    · rintro i v σ H' hv ⟨s5, v2, rfl, ho⟩
      obtain ⟨a, ha, rfl⟩ := refs_of hv
      have hi : i < x.layers.length := by rw [← D.lays.len]; exact (List.getElem?_eq_some_iff.mp ha).1
      obtain ⟨l, hl⟩ : ∃ l, x.layers[i]? = some l := ⟨_, List.getElem?_eq_getElem hi⟩
      obtain ⟨dy, n, c, g1, g2, g3, _⟩ := (D.lays.at_ i a l ha hl).ex
      have six := W.nl
      have sl : (iv (Ie11.told x) ++ nv (showsL (x.layers.take i))).length ≤ 100 := by
        rw [List.length_append, tl, nv_len, showsL_len, List.length_take]
        omega
      refine ⟨_, rfl, .inl ⟨rfl, _, SqL.of ho⟩, _, rfl, a, CL, dy, _, _, rfl, s5 _ _ g1, O.clL, O.nName, lay_name _ _, n, _, rfl, .inl (SqL.of (s5 _ _ g2)), o, _, _, rfl, rfl, ho, smalls (by omega), ?_⟩
      have s6 := same_set (o := .lst (iv (Ie11.told x) ++ nv (showsL (x.layers.take i)) ++ [.int ((nv l.name).length : Int)])) s5 no
      refine ⟨_, rfl, .inl ⟨rfl, _, SqL.of upd_same⟩, _, rfl, a, CL, dy, _, _, rfl, s6 _ _ g1, O.clL, O.nNumbers, lay_numbers _ _, c, Ie11.ints l.cells, rfl, SqL.of ?_, o, _, _, rfl, rfl, upd_same, smalls (by rw [List.length_append]; simp only [List.length_singleton]; omega), same_set s6 no, _, rfl, ?_⟩
      · rw [s6 _ _ g3, ← iv_ints]
        rfl
      · rw [upd_same, take_snoc hl, sum_cast, nv_len]
        have : showsL (x.layers.take i ++ [l]) = showsL (x.layers.take i) ++ [l.name.length, l.cells.foldl (fun a b => a + b) 0] := by
          unfold showsL
          rw [List.flatMap_append]
          simp
        rw [this, nv_app, List.append_assoc, List.append_assoc]
        rfl
    · rintro σ H' ⟨s5, v2, rfl, ho⟩
      rw [List.length_map, D.lays.len, List.take_length, ← iv_ints, ← iv_app] at ho
      exact ⟨_, rfl, q.at_ DA W (step_shows x) s5 no ho⟩
/-! ### look -/
/-- look: slots 0 document 1 i 2 looked_at -/
abbrev s_look : Stmt := top 105
abbrev N_look : List Str := ["document", "i", "looked_at"]
theorem sc_look : FnScope N_look ["document", "i"] (defScope s_look) := ⟨rfl, rfl, rfl, by decide +kernel, rfl, by decide +kernel, by decide +kernel⟩
def spLook (CL CD : Addr) : Sp := fun vs H Q _ => ∃ (d : Addr) (x : Ie11.Doc) (S R : Addr → Prop) (i : Nat), vs = [.ref d, .int (i : Int)] ∧ DocAt CL CD H S d x ∧ Wf x ∧ Done CL CD H S R d x (.look i) Q
theorem ok_look {f : Addr} {fd : FuncData} (T : Txt K mg) (O : Obs K CL CD) (F : Fun K "look" "look" s_look f fd) : FnOk P w K mg base CX0 1 f fd ["document", "i"] (spLook CL CD) := by
  refine F.ok sc_look (fun vs H Q E h => ?_) (fun cdv A outer s H vs Q E hr h => ?_)
  · obtain ⟨d, x, S, R, i, rfl, _⟩ := h
    rfl
  · obtain ⟨d, x, S, R, i, rfl, DA, W, q⟩ := h
    refine ⟨_, (pss_cons (ps_if (pt_cmpR op_ge (pv 1) (pe_callB call_len_seq (by rfl) T.b_len PySem.boot_len (pa_cons (pe_fld (pv 0) rfl) pa_nil)) (nomark _))
      (pss_one (ps_ret (pe_lst (pa_cons (pe_k T.c_OUT_OF_RANGE) pa_nil))))
      pss_nil)
      (pss_cons (ps_set (i := 2) sc_look.nd rfl (Or.inl rfl) (pe_ix ix_list (pe_fld (pv 0) rfl) (pv 1) (fun _ _ => rfl)))
      (pss_one (ps_ret (pe_op op_cat (pe_op op_cat (pe_lst (pa_cons (pe_callB call_len_seq (by rfl) T.b_len PySem.boot_len (pa_cons (pe_fld (pv 2) rfl) pa_nil)) pa_nil)) (pe_fld (pv 2) rfl)) (pe_fld (pv 2) rfl)))))), ?_⟩
    obtain ⟨dx, la, oa, as, bs, D⟩ := id DA
    refine ⟨_, rfl, _, rfl, d, CD, dx, _, _, rfl, D.hd, O.clD, O.nLayers, doc_layers _ _ _ _, la, _, rfl, .inl (SqL.of D.hla), _, _, rfl, rfl, _, rfl, ite2 (fun c => ?_) (fun c => ?_)⟩
    · refine ⟨(by show 1 ≤ sizeLine; decide), fun p np => ?_⟩
      have := of_decide_eq_true c
      rw [List.length_map, D.lays.len] at this
      exact q.same (l := [-1]) DA W (step_look_none x (List.getElem?_eq_none (by omega))) (Same.refl _) np
    · have hi : i < x.layers.length := by
        by_cases z : i < x.layers.length
        · exact z
        · exact absurd (decide_eq_true (by rw [List.length_map, D.lays.len]; omega)) c
      obtain ⟨l, hl⟩ : ∃ l, x.layers[i]? = some l := ⟨_, List.getElem?_eq_getElem hi⟩
      obtain ⟨y, hy⟩ : ∃ y, as[i]? = some y := ⟨_, List.getElem?_eq_getElem (by rw [D.lays.len]; exact hi)⟩
      obtain ⟨dy, n, cc, g1, g2, g3, _⟩ := (D.lays.at_ i y l hy hl).ex
      have wl := W.lay l (List.mem_of_getElem? hl)
      have h64 := wh64 W.w8 W.h8
      refine ⟨_, rfl, d, CD, dx, _, _, rfl, D.hd, O.clD, O.nLayers, doc_layers _ _ _ _, _, rfl, la, _, _, _, rfl, rfl, SqL.of D.hla, atI_nat (show (as.map V.ref)[i]? = some (.ref y) by rw [List.getElem?_map, hy]; rfl), ?_⟩
      refine ⟨_, rfl, y, CL, dy, _, _, rfl, g1, O.clL, O.nName, lay_name _ _, n, _, rfl, .inl (SqL.of g2), (by show 1 ≤ sizeLine; decide), fun z nz => ?_⟩
      have s1 : Same H (upd H z (.lst [.int ((nv l.name).length : Int)])) := same_upd nz
      refine ⟨_, rfl, y, CL, dy, _, _, rfl, s1 _ _ g1, O.clL, O.nName, lay_name _ _, z, n, _, _, rfl, rfl, upd_same, s1 _ _ g2, small (by rw [nv_len]; simp; omega), fun u nu => ?_⟩
      have s2 := Same.trans s1 (same_upd (o := .lst ([.int ((nv l.name).length : Int)] ++ nv l.name)) nu)
      refine ⟨_, rfl, y, CL, dy, _, _, rfl, s2 _ _ g1, O.clL, O.nNumbers, lay_numbers _ _, u, cc, _, _, rfl, rfl, upd_same, s2 _ _ g3, small (by rw [List.length_append, nv_len, nv_len, wl.2.1]; simp; omega), fun p np => ?_⟩
      have e : [V.int ((nv l.name).length : Int)] ++ nv l.name ++ nv l.cells = iv (Ie11.ints (l.name.length :: (l.name ++ l.cells))) := by
        rw [iv_ints, nv_len, nv_cons, nv_app]
        rfl
      rw [e]
      exact q.same DA W (step_look_some x hl) s2 np
/-! ### others -/
/-- others: slots 0 document 1 told 2 kind 3 some_bytes -/
abbrev s_others : Stmt := top 106
abbrev N_others : List Str := ["document", "told", "kind", "some_bytes"]
theorem sc_others : FnScope N_others ["document"] (defScope s_others) := ⟨rfl, rfl, rfl, by decide +kernel, rfl, by decide +kernel, by decide +kernel⟩
def spOthers (CL CD : Addr) : Sp := fun vs H Q _ => ∃ (d : Addr) (x : Ie11.Doc) (S R : Addr → Prop), vs = [.ref d] ∧ DocAt CL CD H S d x ∧ Wf x ∧ Done CL CD H S R d x .others Q
theorem othersL_len : ∀ ps : List Ie11.Part, (∀ p ∈ ps, p.body.length ≤ 3000) → (othersL ps).length ≤ 3002 * ps.length
  | [], _ => by simp [othersL]
  | p :: ps, h => by
    have := othersL_len ps fun y hy => h y (List.mem_cons_of_mem _ hy)
    have b := h p (List.mem_cons_self ..)
    unfold othersL at this ⊢
    rw [List.flatMap_cons, List.length_append]
    simp only [List.length_cons]
    omega
theorem ok_others {f : Addr} {fd : FuncData} (T : Txt K mg) (O : Obs K CL CD) (F : Fun K "others" "others" s_others f fd) : FnOk P w K mg base CX0 1 f fd ["document"] (spOthers CL CD) := by
  refine F.ok sc_others (fun vs H Q E h => ?_) (fun cdv A outer s H vs Q E hr h => ?_)
  · obtain ⟨d, x, S, R, rfl, _⟩ := h
    rfl
  · obtain ⟨d, x, S, R, rfl, DA, W, q⟩ := h
    refine ⟨_, (pss_cons (ps_set (i := 1) sc_others.nd rfl (Or.inl rfl) (pe_lst (pa_cons (pe_callB call_len_seq (by rfl) T.b_len PySem.boot_len (pa_cons (pe_fld (pv 0) rfl) pa_nil)) pa_nil)))
      (pss_cons (ps_for PassesOwn.never rfl (pi_list (pe_fld (pv 0) rfl)) (pg_tup (by rfl) (pgs_cons (pg_name (i := 2) sc_others.nd rfl (Or.inl rfl)) (pgs_cons (pg_name (i := 3) sc_others.nd rfl (Or.inl rfl)) pgs_nil)))
      (pss_cons (ps_expr (pe_bm PySem.F.plainAttrs_list PySem.F.slot_list_append PySem.F.type_list_append mt_append (pv 1) (pa_cons (pv 2) pa_nil)))
      (pss_cons (ps_expr (pe_bm PySem.F.plainAttrs_list PySem.F.slot_list_append PySem.F.type_list_append mt_append (pv 1) (pa_cons (pe_callB call_len_seq (by rfl) T.b_len PySem.boot_len (pa_cons (pv 3) pa_nil)) pa_nil)))
      (pss_one (ps_expr (pe_bm PySem.F.plainAttrs_list PySem.F.slot_list_extend PySem.F.type_list_extend mt_extend (pv 1) (pa_cons (pv 3) pa_nil)))))))
      (pss_one (ps_ret (pv 1))))), ?_⟩
    obtain ⟨dx, la, oa, as, bs, D⟩ := id DA
    refine ⟨_, rfl, d, CD, dx, _, _, rfl, D.hd, O.clD, O.nOthers, doc_others _ _ _ _, oa, _, rfl, .inl (SqL.of D.hoa), (by show 1 ≤ sizeLine; decide), fun o no => ?_⟩
    have s1 : Same H (upd H o (.lst [.int ((bs.map V.ref).length : Int)])) := same_upd no
    refine ⟨_, rfl, d, CD, dx, _, _, rfl, s1 _ _ D.hd, O.clD, O.nOthers, doc_others _ _ _ _, oa, rfl, ⟨_, SqL.of (s1 _ _ D.hoa)⟩, for_list (K := K) (a := oa) (xs := bs.map V.ref) (fun i σ H' => Same H H' ∧ ∃ v2 v3 : Option V, σ = [some (.ref d), some (.ref o), v2, v3] ∧ H' o = some (.lst (nv (x.others.length :: othersL (x.others.take i)))))
      ⟨s1, none, none, rfl, ?_⟩ (fun i σ H' _ ⟨s5, _⟩ => SqL.of (s5 _ _ D.hoa)) ?_ ?_⟩
    · rw [upd_same, List.length_map, D.oths.len]
      rfl
    · rintro i v σ H' hv ⟨s5, v2, v3, rfl, ho⟩
      obtain ⟨a, ha, rfl⟩ := refs_of hv
      have hi : i < x.others.length := by rw [← D.oths.len]; exact (List.getElem?_eq_some_iff.mp ha).1
      obtain ⟨p, hp⟩ : ∃ p, x.others[i]? = some p := ⟨_, List.getElem?_eq_getElem hi⟩
      obtain ⟨b, g1, g2, _⟩ := (D.oths.at_ i a p ha hp).ex
      have wp := W.oth p (List.mem_of_getElem? hp)
      have six := W.no
      have ol := othersL_len (x.others.take i) fun y hy => W.oth y (List.mem_of_mem_take hy)
      have ol2 : (x.others.take i).length ≤ 6 := by rw [List.length_take]; omega
      have sl : (nv (x.others.length :: othersL (x.others.take i))).length ≤ 18013 := by
        rw [nv_len, List.length_cons]
        omega
      refine ⟨a, _, rfl, SqT.of (s5 _ _ g1), rfl, _, _, rfl, _, _, rfl, rfl, ?_⟩
      refine ⟨_, rfl, .inl ⟨rfl, _, SqL.of ho⟩, _, rfl, o, _, _, rfl, rfl, ho, smalls (by omega), ?_⟩
      have s6 := same_set (o := .lst (nv (x.others.length :: othersL (x.others.take i)) ++ [.int (p.kind : Int)])) s5 no
      refine ⟨_, rfl, .inl ⟨rfl, _, SqL.of upd_same⟩, _, rfl, b, _, rfl, .inl (SqL.of (s6 _ _ g2)), o, _, _, rfl, rfl, upd_same, smalls (by rw [List.length_append]; simp only [List.length_singleton]; omega), ?_⟩
      have s7 := same_set (o := .lst (nv (x.others.length :: othersL (x.others.take i)) ++ [.int (p.kind : Int)] ++ [.int ((nv p.body).length : Int)])) s6 no
      refine ⟨_, rfl, .inl ⟨rfl, _, SqL.of upd_same⟩, _, rfl, o, b, _, _, rfl, rfl, upd_same, s7 _ _ g2, small (by rw [List.length_append, List.length_append, nv_len p.body]; simp only [List.length_singleton]; omega), same_set s7 no, _, _, rfl, ?_⟩
      rw [upd_same, take_snoc hp]
      have : othersL (x.others.take i ++ [p]) = othersL (x.others.take i) ++ (p.kind :: p.body.length :: p.body) := by
        unfold othersL
        rw [List.flatMap_append]
        simp
      rw [this, nv_len p.body, nv_cons, nv_cons, nv_app, nv_cons, nv_cons]
      simp only [List.append_assoc, List.cons_append, List.nil_append]
    · rintro σ H' ⟨s5, v2, v3, rfl, ho⟩
      rw [List.length_map, D.oths.len, List.take_length, ← iv_ints] at ho
      exact ⟨_, rfl, q.at_ DA W (step_others x) s5 no ho⟩
/-! ### short -/
/-- short: slots 0 numbers -/
abbrev s_short : Stmt := top 107
abbrev N_short : List Str := ["numbers"]
theorem sc_short : FnScope N_short ["numbers"] (defScope s_short) := ⟨rfl, rfl, rfl, by decide +kernel, rfl, by decide +kernel, by decide +kernel⟩
def spShort (CL CD : Addr) : Sp := fun vs H Q _ => ∃ (d a : Addr) (x : Ie11.Doc) (S R : Addr → Prop) (l : NL), vs = [.ref a] ∧ DocAt CL CD H S d x ∧ Wf x ∧ H a = some (.lst (nv l)) ∧ l.length ≤ 3000 ∧ Done CL CD H S R d x (.short l) Q
theorem ok_short {f : Addr} {fd : FuncData} (T : Txt K mg) (C_are_bytes : Callee P w K mg base 1 "are_bytes" ["numbers"] spAreBytes) (C_in_short : Callee P w K mg base 4 "in_short" ["numbers"] spInShort) (F : Fun K "short" "short" s_short f fd) : FnOk P w K mg base CX0 5 f fd ["numbers"] (spShort CL CD) := by
  refine F.ok sc_short (fun vs H Q E h => ?_) (fun cdv A outer s H vs Q E hr h => ?_)
  · obtain ⟨d, a, x, S, R, l, rfl, _⟩ := h
    rfl
  · obtain ⟨d, a, x, S, R, l, rfl, DA, W, ha, hlen, q⟩ := h
    refine ⟨_, (pss_cons (ps_if (PW.pt (pw_or (pt_cmpR op_gt (pe_callB call_len_seq (by rfl) T.b_len PySem.boot_len (pa_cons (pv 0) pa_nil)) (pe_k T.c_MOST_SHORT) (nomark _)) (pw_or1 (pt_not (pt_val (pe_cc C_are_bytes (hr.mono (by decide)) (pa_cons (pv 0) pa_nil)))))))
      (pss_one (ps_ret (pe_lst (pa_cons (pe_k T.c_ILL_FORMED) pa_nil))))
      pss_nil)
      (pss_one (ps_ret (pe_cc C_in_short (hr.mono (by decide)) (pa_cons (pv 0) pa_nil))))), ?_⟩
    refine ⟨_, rfl, a, nv l, rfl, .inl (SqL.of ha), _, _, rfl, rfl, _, rfl, ite2 (fun c => ?_) (fun c => ?_)⟩
    · refine iteT ⟨(by show 1 ≤ sizeLine; decide), fun p np => ?_⟩
      have := of_decide_eq_true c
      rw [nv_len] at this
      exact q.same (l := [-2]) DA W (step_short_bad x (.inr (by omega))) (Same.refl _) np
    · have c4 : ¬ 400 < l.length := fun z => c (decide_eq_true (by rw [nv_len]; omega))
      refine ⟨_, rfl, a, l, rfl, ha, hlen, fun H1 s1 => ⟨_, rfl, ?_⟩⟩
      cases hb : Ie11.isBytes l with
      | false =>
        refine iteT ⟨(by show 1 ≤ sizeLine; decide), fun p np => ?_⟩
        exact q.same (l := [-2]) DA W (step_short_bad x (.inl hb)) s1 np
      | true =>
        refine iteF ?_
        refine ⟨_, rfl, a, l, rfl, s1 _ _ ha, hlen, fun H2 p s2 np hp => ?_⟩
        rw [← iv_ints] at hp
        exact q.at_ DA W (step_short x (by rw [hb]; simp; omega)) (Same.trans s1 s2) (s1.free np) hp
/-! ### long -/
/-- long: slots 0 n 1 some_bytes 2 numbers -/
abbrev s_long : Stmt := top 108
abbrev N_long : List Str := ["n", "some_bytes", "numbers"]
theorem sc_long : FnScope N_long ["n", "some_bytes"] (defScope s_long) := ⟨rfl, rfl, rfl, by decide +kernel, rfl, by decide +kernel, by decide +kernel⟩
def spLong (CL CD : Addr) : Sp := fun vs H Q _ => ∃ (d a : Addr) (x : Ie11.Doc) (S R : Addr → Prop) (n : Nat) (b : NL), vs = [.int (n : Int), .ref a] ∧ DocAt CL CD H S d x ∧ Wf x ∧ H a = some (.lst (nv b)) ∧ b.length ≤ 3000 ∧ Done CL CD H S R d x (.long n b) Q
theorem ok_long {f : Addr} {fd : FuncData} (T : Txt K mg) (C_are_bytes : Callee P w K mg base 1 "are_bytes" ["numbers"] spAreBytes) (C_whole_short : Callee P w K mg base 3 "whole_short" ["some_bytes", "wanted"] spWholeShort) (F : Fun K "long" "long" s_long f fd) : FnOk P w K mg base CX0 4 f fd ["n", "some_bytes"] (spLong CL CD) := by
  refine F.ok sc_long (fun vs H Q E h => ?_) (fun cdv A outer s H vs Q E hr h => ?_)
  · obtain ⟨d, a, x, S, R, n, b, rfl, _⟩ := h
    rfl
  · obtain ⟨d, a, x, S, R, n, b, rfl, DA, W, ha, hlen, q⟩ := h
    refine ⟨_, (pss_cons (ps_if (PW.pt (pw_or (pt_cmpR op_gt (pv 0) (pe_k T.c_MOST_SHORT) (nomark _)) (pw_or1 (pt_not (pt_val (pe_cc C_are_bytes (hr.mono (by decide)) (pa_cons (pv 1) pa_nil)))))))
      (pss_one (ps_ret (pe_lst (pa_cons (pe_k T.c_ILL_FORMED) pa_nil))))
      pss_nil)
      (pss_cons (ps_set (i := 2) sc_long.nd rfl (Or.inl rfl) (pe_cc C_whole_short (hr.mono (by decide)) (pa_cons (pv 1) (pa_cons (pv 0) pa_nil))))
      (pss_cons (ps_if (pt_cmpR op_isN (pv 2) pe_non (nomark _))
      (pss_one (ps_ret (pe_lst (pa_cons (pe_k T.c_NOT_SO_MANY) pa_nil))))
      pss_nil)
      (pss_one (ps_ret (pv 2)))))), ?_⟩
    refine ⟨_, rfl, _, _, rfl, rfl, _, rfl, ite2 (fun c => ?_) (fun c => ?_)⟩
    · refine iteT ⟨(by show 1 ≤ sizeLine; decide), fun p np => ?_⟩
      have := of_decide_eq_true c
      exact q.same (l := [-2]) DA W (step_long_bad x (.inr (by omega))) (Same.refl _) np
    · have c4 : ¬ 400 < n := fun z => c (decide_eq_true (by omega))
      refine ⟨_, rfl, a, b, rfl, ha, hlen, fun H1 s1 => ⟨_, rfl, ?_⟩⟩
      cases hb : Ie11.isBytes b with
      | false =>
        refine iteT ⟨(by show 1 ≤ sizeLine; decide), fun p np => ?_⟩
        exact q.same (l := [-2]) DA W (step_long_bad x (.inl hb)) s1 np
      | true =>
        refine iteF ?_
        have ok : ¬ (Ie11.isBytes b = false ∨ 400 < n) := by
          rw [hb]
          simp
          omega
        refine ⟨_, rfl, _, rfl, a, b, n, rfl, s1 _ _ ha, hlen, isBytes_b8 hb, by omega, fun e H2 s2 => ?_, fun s e e2 H2 p s2 np hp => ?_⟩
        · refine ⟨_, rfl, rfl, _, rfl, iteT ⟨(by show 1 ≤ sizeLine; decide), fun p np => ?_⟩⟩
          exact q.same (l := [-6]) DA W (step_long_not x ok e) (Same.trans s1 s2) np
        · refine ⟨_, rfl, rfl, _, rfl, iteF ⟨_, rfl, ?_⟩⟩
          rw [← iv_ints] at hp
          exact q.at_ DA W (step_long x ok e e2) (Same.trans s1 s2) (s1.free np) hp
end
end Pf
end
section
set_option Elab.async false
set_option linter.all false
set_option maxRecDepth 100000
set_option maxHeartbeats 4000000
namespace Pf
open PySem PySem.Spec PyProof.Rows L2
section
variable {P : Program} {w : World} {K : PySem.W.Frag} {mg : Str → Option Value} {base : Heap} {CL CD : Addr}
/-! ### answers -/
/-- answers: slots 0 calls 1 document 2 given 3 at 4 call 5 row_at 6 whole 7 row 8 answered -/
abbrev s_answers : Stmt := top 110
abbrev N_answers : List Str := ["calls", "document", "given", "at", "call", "row_at", "whole", "row", "answered"]
theorem sc_answers : FnScope N_answers ["calls"] (defScope s_answers) := ⟨rfl, rfl, rfl, by decide +kernel, rfl, by decide +kernel, by decide +kernel⟩
def spAnswer (CL CD : Addr) : Sp := fun vs H Q _ => ∃ (d wa ra : Addr) (x : Ie11.Doc) (S : Addr → Prop) (p : Nat) (ws row : NL) (c : Ie11.Call), vs = [.ref d, .int (p : Int), .ref wa, .ref ra] ∧ DocAt CL CD H S d x ∧ Wf x ∧ H wa = some (.lst (nv ws)) ∧ H ra = some (.lst (nv row)) ∧ row.length ≤ 3000 ∧ ¬ S ra ∧ callNat p ws row = some c ∧ Done CL CD H S (the ra) d x c Q
def spAnswers (K : PySem.W.Frag) : Sp := fun vs H Q _ => ∃ (a : Addr) (ms : NL), vs = [.ref a] ∧ SqL K H a (nv ms) ∧ ms.length ≤ 30000 ∧ PyIe11.answers_asked (Ie11.ints ms) = true ∧ ∀ (H' : Hp) (p : Addr), H' p = some (.lst (iv (PyIe11.answers (Ie11.ints ms)))) → Q (.ref p) H'
def wnl : NL := [2, 0, 1, 1, 1, 0, 0, 0, 0, 1, 0, 0, 1]
def hrl : List Bool := [false, true, true, true, false, false, true, true, false, false, false, true, true]
structure Tabs (K : PySem.W.Frag) (mg : Str → Option Value) (a_WHOLE_NUMBERS a_HAS_ROW : Addr) : Prop where
  t_WHOLE_NUMBERS : mg "WHOLE_NUMBERS" = some (.ref a_WHOLE_NUMBERS)
  q_WHOLE_NUMBERS : ∀ H, SqT K H a_WHOLE_NUMBERS (nv wnl)
  t_HAS_ROW : mg "HAS_ROW" = some (.ref a_HAS_ROW)
  q_HAS_ROW : ∀ H, SqT K H a_HAS_ROW (hrl.map V.bl)
theorem wnl_at {p : Nat} (h : p ≤ 12) : wnl[p]? = some (wn p) := by
  have hl : p < wnl.length := by show p < 13; omega
  unfold wn
  rw [List.getD_eq_getElem?_getD]
  show wnl[p]? = some (wnl[p]?.getD 0)
  rw [List.getElem?_eq_getElem hl]
  rfl
theorem hrl_at {p : Nat} (h : p ≤ 12) : hrl[p]? = some (hrw p) := by
  have hl : p < hrl.length := by show p < 13; omega
  unfold hrw
  rw [List.getD_eq_getElem?_getD]
  show hrl[p]? = some (hrl[p]?.getD false)
  rw [List.getElem?_eq_getElem hl]
  rfl
theorem hrl_V {p : Nat} (h : p ≤ 12) : atI (hrl.map V.bl) (p : Int) = some (.bl (hrw p)) := atI_nat (by rw [List.getElem?_map, hrl_at h]; rfl)
theorem ok_answers {f : Addr} {fd : FuncData} {a_WHOLE_NUMBERS a_HAS_ROW : Addr} (T : Txt K mg) (O : Obs K CL CD) (U : Tabs K mg a_WHOLE_NUMBERS a_HAS_ROW) (M_Document : Maker P w K mg base 1 "Document" CD ["self", "columns", "rows"] (spDocInit CD))
    (C_answer : Callee P w K mg base 10 "answer" ["document", "call", "whole", "row"] (spAnswer CL CD)) (F : Fun K "answers" "answers" s_answers f fd) : FnOk P w K mg base CX0 11 f fd ["calls"] (spAnswers K) := by
  refine F.ok sc_answers (fun vs H Q E h => ?_) (fun cdv A outer s H vs Q E hr h => ?_)
  · obtain ⟨a, ms, rfl, _⟩ := h
    rfl
  · obtain ⟨a, ms, rfl, hA, hlen, hask, q⟩ := h
    obtain ⟨L0, hsize⟩ := Left.start hask
    generalize hans0 : PyIe11.answers (Ie11.ints ms) = ans at L0 hsize q
    refine ⟨_, (pss_cons (ps_set (i := 1) sc_answers.nd rfl (Or.inl rfl) (pe_mkc M_Document (hr.mono (by decide)) (pa_cons pe_int (pa_cons pe_int pa_nil))))
      (pss_cons (ps_set (i := 2) sc_answers.nd rfl (Or.inl rfl) (pe_lst pa_nil))
      (pss_cons (ps_set (i := 3) sc_answers.nd rfl (Or.inl rfl) pe_int)
      (pss_cons (ps_while PassesOwn.never (pt_cmpR op_lt (pv 3) (pe_callB call_len_seq (by rfl) T.b_len PySem.boot_len (pa_cons (pv 0) pa_nil)) (nomark _))
      (pss_cons (ps_set (i := 4) sc_answers.nd rfl (Or.inl rfl) (pe_ix ix_list (pv 0) (pv 3) (fun _ _ => rfl)))
      (pss_cons (ps_set (i := 5) sc_answers.nd rfl (Or.inl rfl) (pe_op op_add (pe_op op_add (pv 3) pe_int) (pe_ix ix_tup (pe_glob (v := .ref a_WHOLE_NUMBERS) rfl U.t_WHOLE_NUMBERS rfl) (pv 4) (fun _ _ => rfl))))
      (pss_cons (ps_set (i := 6) sc_answers.nd rfl (Or.inl rfl) (pe_slice sl_list (pv 0) (po_some (pe_op op_add (pv 3) pe_int)) (po_some (pv 5))))
      (pss_cons (ps_set (i := 7) sc_answers.nd rfl (Or.inl rfl) (pe_lst pa_nil))
      (pss_cons (ps_set (i := 3) sc_answers.nd rfl (Or.inl rfl) (pv 5))
      (pss_cons (ps_if (pt_val (pe_ix ix_tup (pe_glob (v := .ref a_HAS_ROW) rfl U.t_HAS_ROW rfl) (pv 4) (fun _ _ => rfl)))
      (pss_cons (ps_set (i := 3) sc_answers.nd rfl (Or.inl rfl) (pe_op op_add (pe_op op_add (pv 5) pe_int) (pe_ix ix_list (pv 0) (pv 5) (fun _ _ => rfl))))
      (pss_one (ps_set (i := 7) sc_answers.nd rfl (Or.inl rfl) (pe_slice sl_list (pv 0) (po_some (pe_op op_add (pv 5) pe_int)) (po_some (pv 3))))))
      pss_nil)
      (pss_cons (ps_set (i := 8) sc_answers.nd rfl (Or.inl rfl) (pe_cc C_answer (hr.mono (by decide)) (pa_cons (pv 1) (pa_cons (pv 4) (pa_cons (pv 6) (pa_cons (pv 7) pa_nil))))))
      (pss_cons (ps_expr (pe_bm PySem.F.plainAttrs_list PySem.F.slot_list_append PySem.F.type_list_append mt_append (pv 2) (pa_cons (pe_callB call_len_seq (by rfl) T.b_len PySem.boot_len (pa_cons (pv 8) pa_nil)) pa_nil)))
      (pss_one (ps_expr (pe_bm PySem.F.plainAttrs_list PySem.F.slot_list_extend PySem.F.type_list_extend mt_extend (pv 2) (pa_cons (pv 8) pa_nil)))))))))))))
      (pss_one (ps_ret (pv 2))))))), ?_⟩
    -- document = Document(1, 1)
    intro d dy ne nd nee
    refine ⟨d, dy, _, _, rfl, upd_same, fun H1 la oa fla foa nlo hla hoa he but => ⟨rfl, ?_⟩⟩
    have s1 : Same H H1 := Same.made ne nd but
    obtain ⟨fla, _, _⟩ := made_none fla
    obtain ⟨foa, _, _⟩ := made_none foa
    have D1 : DocAt CL CD H1 (fun c => c = d ∨ c = la ∨ c = oa) d doc0 := ⟨dy, la, oa, [], [], he, hla, hoa, nlo, .inl rfl, .inr (.inl rfl), .inr (.inr rfl), Lays.nil, List.nodup_nil, Oths.nil, fun c hc => by
      rcases hc with z | z | z
      · rw [z, he]; simp
      · rw [z, hla]; simp
      · rw [z, hoa]; simp⟩
    have f1 : ∀ c, (c = d ∨ c = la ∨ c = oa) → H c = none := fun c hc => by
      rcases hc with z | z | z
      · rw [z]; exact ne
      · rw [z]; exact fla
      · rw [z]; exact foa
    -- given = []
    refine ⟨Nat.zero_le _, fun g ngi => ?_⟩
    have ngH : H g = none := s1.free ngi
    refine ⟨fun m σ H' => Same H H' ∧ ∃ (i : Nat) (x : Ie11.Doc) (S : Addr → Prop) (out due : List Int) (v4 v5 v6 v7 v8 : Option V), σ = [some (.ref a), some (.ref d), some (.ref g), some (.int (i : Int)), v4, v5, v6, v7, v8] ∧ i ≤ ms.length ∧ Left (ms.drop i) x due ∧ out ++ due = ans ∧ H' g = some (.lst (iv out)) ∧ DocAt CL CD H' S d x ∧ Wf x ∧ ¬ S g ∧ (∀ c, S c → H c = none) ∧ m = ms.length - i,
      ⟨_, Same.trans s1 (same_upd ngi), 0, doc0, _, [], ans, none, none, none, none, none, rfl, Nat.zero_le _, L0, rfl, upd_same, D1.same (same_upd ngi), wf0, fun z => D1.dom g z ngi, f1, rfl⟩, ?_⟩
    rintro m0 σ H' ⟨s4, i, x, S, out, due, v4, v5, v6, v7, v8, rfl, hi, L, hans, hg, D, W, nSg, fS, rfl⟩
    have hS : SqL K H' a (nv ms) := s4.seq hA
    refine ⟨_, rfl, _, rfl, a, nv ms, rfl, .inl hS, _, _, rfl, rfl, _, rfl, ite2 (fun c0 => ?_) (fun c0 => ?_)⟩
    · have hi1 : i < ms.length := by
        have := of_decide_eq_true c0
        rw [nv_len] at this
        omega
      obtain ⟨p, hp⟩ : ∃ p, ms[i]? = some p := ⟨_, List.getElem?_eq_getElem hi1⟩
      have ed : ms.drop i = p :: ms.drop (i + 1) := by
        rw [List.drop_eq_getElem_cons hi1]
        rw [List.getElem?_eq_getElem hi1] at hp
        rw [Option.some.inj hp]
      rw [ed] at L
      generalize hr0 : ms.drop (i + 1) = r at L
      obtain ⟨hp12, hwn, hrow, c, due', hcall, hleft, hdue⟩ := L.turn
      have rl : r.length = ms.length - (i + 1) := by rw [← hr0, List.length_drop]
      refine ⟨fun σ' H2 => Same H H2 ∧ ∃ (j : Nat) (x : Ie11.Doc) (S : Addr → Prop) (out due : List Int) (v4 v5 v6 v7 v8 : Option V), σ' = [some (.ref a), some (.ref d), some (.ref g), some (.int (j : Int)), v4, v5, v6, v7, v8] ∧ i < j ∧ j ≤ ms.length ∧ Left (ms.drop j) x due ∧ out ++ due = ans ∧ H2 g = some (.lst (iv out)) ∧ DocAt CL CD H2 S d x ∧ Wf x ∧ ¬ S g ∧ (∀ c, S c → H c = none), ?_, ?_⟩
      · rintro σ' H2 ⟨g1, j, x2, S2, out2, due2, w4, w5, w6, w7, w8, rfl, g2, g3, g4, g5, g6, g7, g8, g9, g10⟩
        exact ⟨ms.length - j, by omega, g1, j, x2, S2, out2, due2, w4, w5, w6, w7, w8, rfl, g3, g4, g5, g6, g7, g8, g9, g10, rfl⟩
      · -- call, row_at
        refine ⟨_, rfl, _, rfl, a, nv ms, _, _, rfl, rfl, hS, nv_at hp, ?_⟩
        refine ⟨_, rfl, _, _, rfl, rfl, _, rfl, a_WHOLE_NUMBERS, _, _, _, rfl, rfl, U.q_WHOLE_NUMBERS H', nv_at (wnl_at hp12), _, _, rfl, rfl, ?_⟩
        -- whole
        refine ⟨_, rfl, _, rfl, _, _, rfl, rfl, _, rfl, _, rfl, _, rfl, a, nv ms, rfl, hS, fun wa nwa => ?_⟩
        have ew : cutV (nv ms) (some ((i : Int) + 1)) (some ((i : Int) + 1 + (wn p : Int))) = nv (r.take (wn p)) := by
          rw [show (i : Int) + 1 + (wn p : Int) = ((i + 1 + wn p : Nat) : Int) by omega, show (i : Int) + 1 = ((i + 1 : Nat) : Int) from rfl, cut_nv, hr0, show i + 1 + wn p - (i + 1) = wn p by omega]
        have t1 : Same H' (upd H' wa (.lst (cutV (nv ms) (some ((i : Int) + 1)) (some ((i : Int) + 1 + (wn p : Int)))))) := same_upd nwa
        have hwa : (upd H' wa (.lst (cutV (nv ms) (some ((i : Int) + 1)) (some ((i : Int) + 1 + (wn p : Int)))))) wa = some (.lst (nv (r.take (wn p)))) := by
          rw [upd_same, ew]
        -- row = []
        refine ⟨Nat.zero_le _, fun r0 nr0 => ?_⟩
        have t2' : Same (upd H' wa (.lst (cutV (nv ms) (some ((i : Int) + 1)) (some ((i : Int) + 1 + (wn p : Int)))))) (upd (upd H' wa (.lst (cutV (nv ms) (some ((i : Int) + 1)) (some ((i : Int) + 1 + (wn p : Int)))))) r0 (.lst [])) := same_upd nr0
        have hr0' : (upd (upd H' wa (.lst (cutV (nv ms) (some ((i : Int) + 1)) (some ((i : Int) + 1 + (wn p : Int)))))) r0 (.lst [])) r0 = some (.lst []) := upd_same
        have hwa := t2' _ _ hwa
        have t2 := Same.trans t1 t2'
        have nr0H : H' r0 = none := t1.free nr0
        generalize hH2 : upd (upd H' wa (.lst (cutV (nv ms) (some ((i : Int) + 1)) (some ((i : Int) + 1 + (wn p : Int)))))) r0 (.lst []) = H2 at t2 hwa hr0'
        -- at = row_at; if HAS_ROW[call]
        refine ⟨_, rfl, ?_⟩
        refine ⟨_, rfl, a_HAS_ROW, _, _, _, rfl, rfl, U.q_HAS_ROW _, hrl_V hp12, _, rfl, ?_⟩
        have erow : (i : Int) + 1 + (wn p : Int) = ((i + 1 + wn p : Nat) : Int) := by omega
        cases hh : hrw p with
        | true =>
          refine iteT ?_
          obtain ⟨m, r', hm1, hm2, hm3⟩ := hrow hh
          have hmr : r'.length = r.length - wn p - 1 := by
            have := congrArg List.length hm1
            rw [List.length_drop, List.length_cons] at this
            omega
          have hmw : wn p < r.length := by
            have := congrArg List.length hm1
            rw [List.length_drop, List.length_cons] at this
            omega
          have hmi : ms[i + 1 + wn p]? = some m := by
            have : (r.drop (wn p))[0]? = some m := by rw [hm1]; rfl
            rw [List.getElem?_drop, ← hr0, List.getElem?_drop] at this
            exact this
          have e0 : r.drop (wn p + 1) = r' := by
            have := congrArg (List.drop 1) hm1
            rw [List.drop_drop] at this
            exact this
          have erowN : rowN (wn p) (hrw p) r = r'.take m := by
            unfold rowN
            rw [hh, if_pos rfl, e0, hm1]
            rfl
          have erest : restN (wn p) (hrw p) r = ms.drop (i + 1 + wn p + 1 + m) := by
            unfold restN
            rw [hh, if_pos rfl, hm1, ← hr0, List.drop_drop, List.drop_drop]
            congr 1
            show i + 1 + (wn p + 1 + m) = _
            omega
          have hS2 : SqL K H2 a (nv ms) := t2.seq hS
          -- at = row_at + 1 + calls[row_at]
          refine ⟨_, rfl, _, _, rfl, rfl, _, rfl, _, rfl, a, nv ms, _, _, rfl, rfl, hS2, (by show atI (nv ms) ((i : Int) + 1 + (wn p : Int)) = _; rw [erow]; exact nv_at hmi), _, _, rfl, rfl, ?_⟩
          -- row = calls[row_at + 1:at]
          refine ⟨_, rfl, _, rfl, _, _, rfl, rfl, _, rfl, _, rfl, _, rfl, a, nv ms, rfl, hS2, fun ra nra' => ?_⟩
          have er : cutV (nv ms) (some ((i : Int) + 1 + (wn p : Int) + 1)) (some ((i : Int) + 1 + (wn p : Int) + 1 + (m : Int))) = nv (rowN (wn p) (hrw p) r) := by
            rw [show (i : Int) + 1 + (wn p : Int) + 1 + (m : Int) = ((i + 1 + wn p + 1 + m : Nat) : Int) by omega, show (i : Int) + 1 + (wn p : Int) + 1 = ((i + 1 + wn p + 1 : Nat) : Int) by omega, cut_nv, erowN, show i + 1 + wn p + 1 + m - (i + 1 + wn p + 1) = m by omega, ← e0, ← hr0, List.drop_drop]
            rfl
          have hra0 : (upd H2 ra (.lst (cutV (nv ms) (some ((i : Int) + 1 + (wn p : Int) + 1)) (some ((i : Int) + 1 + (wn p : Int) + 1 + (m : Int)))))) ra = some (.lst (nv (rowN (wn p) (hrw p) r))) := by
            rw [upd_same, er]
          have t3' : Same H2 (upd H2 ra (.lst (cutV (nv ms) (some ((i : Int) + 1 + (wn p : Int) + 1)) (some ((i : Int) + 1 + (wn p : Int) + 1 + (m : Int)))))) := same_upd nra'
          have t3 := Same.trans t2 t3'
          have hwa := t3' _ _ hwa
          have nraH : H' ra = none := t2.free nra'
          have frA : H ra = none := s4.free nraH
          have nra : ¬ S ra := fun z => D.dom _ z nraH
          have nga : ¬ g = ra := ne_of_none hg nraH
          have hrl : (rowN (wn p) (hrw p) r).length ≤ 3000 := by
            rw [erowN, List.length_take]
            omega
          generalize hH3 : upd H2 ra (.lst (cutV (nv ms) (some ((i : Int) + 1 + (wn p : Int) + 1)) (some ((i : Int) + 1 + (wn p : Int) + 1 + (m : Int))))) = H3 at t3 hwa hra0
          have hra := hra0
          refine ⟨_, rfl, _, rfl, _, rfl, _, rfl, d, wa, ra, x, S, p, r.take (wn p), rowN (wn p) (hrw p) r, c, rfl, D.same t3, W, hwa, hra, hrl, nra, hcall, fun H5 S5 p5 D5 W5 k5 g5 hp5 np5 nS5 => ?_⟩
          have ng : H5 g = some (.lst (iv out)) := k5 _ _ (t3 _ _ hg) nSg
          have ngp : g ≠ p5 := ne_of_none (t3 _ _ hg) np5
          have so : out.length + (1 + (Ie11.step x c).2.length) ≤ 10000000 := by
            have := congrArg List.length hans
            rw [List.length_append, hdue, List.length_cons, List.length_append] at this
            omega
          refine ⟨_, rfl, .inl ⟨rfl, _, SqL.of ng⟩, _, rfl, p5, _, rfl, .inl (SqL.of hp5), g, _, _, rfl, rfl, ng, (by rw [iv_len]; exact Nat.lt_of_le_of_lt (by omega : out.length ≤ 10000000) (by decide)), ?_⟩
          refine ⟨_, rfl, .inl ⟨rfl, _, SqL.of upd_same⟩, _, rfl, g, p5, _, _, rfl, rfl, upd_same, (by rw [upd_ne ngp.symm]; exact hp5), (by rw [List.length_append, iv_len, iv_len]; exact Nat.le_trans (by simp; omega : _ ≤ 10000000) (by decide)), ?_⟩
          have nd5 : ¬ S5 g := fun z => by
            rcases g5 g z with y | y | y
            · exact nSg y
            · exact (fun y => nga y) y
            · rw [t3 _ _ hg] at y
              cases y
          have s5 : Same H (upd (upd H5 g (.lst (iv out ++ [.int ((iv (Ie11.step x c).2).length : Int)]))) g (.lst (iv out ++ [.int ((iv (Ie11.step x c).2).length : Int)] ++ iv (Ie11.step x c).2))) := same_set (same_set (fun b o hb => k5 b o ((Same.trans s4 t3) b o hb) fun z => by
            rw [fS b z] at hb
            cases hb) ngH) ngH
          rw [upd_upd] at s5
          rw [upd_upd]
          refine ⟨s5, i + 1 + wn p + 1 + m, (Ie11.step x c).1, S5, out ++ (((Ie11.step x c).2.length : Int) :: (Ie11.step x c).2), due', _, _, _, _, _, rfl, (by omega), (by omega), ?_, ?_, ?_, ?_, W5, nd5, fun b hb => ?_⟩
          · have := hleft
            rw [erest] at this
            exact this
          · rw [← hans, hdue, List.append_assoc]
            rfl
          · rw [upd_same, iv_len, iv_app, List.append_assoc]
            rfl
          · obtain ⟨dx, la, oa, as, bs, DI⟩ := D5
            exact ⟨dx, la, oa, as, bs, DI.keep (fun b o hb h => by rw [upd_ne (show b ≠ g from fun z => nd5 (z ▸ hb))]; exact h) (fun _ h => h) (fun b hb => grows_upd (fun _ h => h) b (DI.dom b hb))⟩
          · rcases g5 b hb with y | y | y
            · exact fS b y
            · rw [show b = ra from y]
              exact frA
            · exact (Same.trans s4 t3).free y
        | false =>
          refine iteF ?_
          have erest0 : restN (wn p) (hrw p) r = ms.drop (i + 1 + wn p) := by
            unfold restN
            rw [hh, if_neg (by decide), ← hr0, List.drop_drop]
          have erow0 : rowN (wn p) (hrw p) r = [] := by
            unfold rowN
            rw [hh]
            rfl
          have hr0 : H2 r0 = some (.lst (nv (rowN (wn p) (hrw p) r))) := by
            rw [erow0]
            exact hr0'
          have fr0 : H r0 = none := s4.free nr0H
          have nr0S : ¬ S r0 := fun z => D.dom _ z nr0H
          have ng0 : ¬ g = r0 := ne_of_none hg nr0H
          have hrl0 : (rowN (wn p) (hrw p) r).length ≤ 3000 := by
            rw [erow0]
            simp
          refine ⟨_, rfl, _, rfl, _, rfl, _, rfl, d, wa, r0, x, S, p, r.take (wn p), rowN (wn p) (hrw p) r, c, rfl, D.same t2, W, hwa, hr0, hrl0, nr0S, hcall, fun H5 S5 p5 D5 W5 k5 g5 hp5 np5 nS5 => ?_⟩
          have ng : H5 g = some (.lst (iv out)) := k5 _ _ (t2 _ _ hg) nSg
          have ngp : g ≠ p5 := ne_of_none (t2 _ _ hg) np5
          have so : out.length + (1 + (Ie11.step x c).2.length) ≤ 10000000 := by
            have := congrArg List.length hans
            rw [List.length_append, hdue, List.length_cons, List.length_append] at this
            omega
          refine ⟨_, rfl, .inl ⟨rfl, _, SqL.of ng⟩, _, rfl, p5, _, rfl, .inl (SqL.of hp5), g, _, _, rfl, rfl, ng, (by rw [iv_len]; exact Nat.lt_of_le_of_lt (by omega : out.length ≤ 10000000) (by decide)), ?_⟩
          refine ⟨_, rfl, .inl ⟨rfl, _, SqL.of upd_same⟩, _, rfl, g, p5, _, _, rfl, rfl, upd_same, (by rw [upd_ne ngp.symm]; exact hp5), (by rw [List.length_append, iv_len, iv_len]; exact Nat.le_trans (by simp; omega : _ ≤ 10000000) (by decide)), ?_⟩
          have nd5 : ¬ S5 g := fun z => by
            rcases g5 g z with y | y | y
            · exact nSg y
            · exact (fun y => ng0 y) y
            · rw [t2 _ _ hg] at y
              cases y
          have s5 : Same H (upd (upd H5 g (.lst (iv out ++ [.int ((iv (Ie11.step x c).2).length : Int)]))) g (.lst (iv out ++ [.int ((iv (Ie11.step x c).2).length : Int)] ++ iv (Ie11.step x c).2))) := same_set (same_set (fun b o hb => k5 b o ((Same.trans s4 t2) b o hb) fun z => by
            rw [fS b z] at hb
            cases hb) ngH) ngH
          rw [upd_upd] at s5
          rw [upd_upd]
          refine ⟨s5, i + 1 + wn p, (Ie11.step x c).1, S5, out ++ (((Ie11.step x c).2.length : Int) :: (Ie11.step x c).2), due', _, _, _, _, _, rfl, (by omega), (by omega), ?_, ?_, ?_, ?_, W5, nd5, fun b hb => ?_⟩
          · have := hleft
            rw [erest0] at this
            exact this
          · rw [← hans, hdue, List.append_assoc]
            rfl
          · rw [upd_same, iv_len, iv_app, List.append_assoc]
            rfl
          · obtain ⟨dx, la, oa, as, bs, DI⟩ := D5
            exact ⟨dx, la, oa, as, bs, DI.keep (fun b o hb h => by rw [upd_ne (show b ≠ g from fun z => nd5 (z ▸ hb))]; exact h) (fun _ h => h) (fun b hb => grows_upd (fun _ h => h) b (DI.dom b hb))⟩
          · rcases g5 b hb with y | y | y
            · exact fS b y
            · rw [show b = r0 from y]
              exact fr0
            · exact (Same.trans s4 t2).free y
    · have hi1 : i = ms.length := by
        by_cases z : i < ms.length
        · exact absurd (decide_eq_true (by rw [nv_len]; omega)) c0
        · omega
      subst hi1
      rw [List.drop_of_length_le (Nat.le_refl _)] at L
      have := L.nil
      subst this
      rw [List.append_nil] at hans
      subst hans
      exact ⟨_, rfl, q H' g hg⟩
end
end Pf
end
section
set_option Elab.async false
set_option linter.all false
set_option maxRecDepth 100000
set_option maxHeartbeats 4000000
namespace Pf
open PySem PySem.Spec PyProof.Rows L2
/-! ### which call it is -/
section
variable {ws row : NL} {c : Ie11.Call}
theorem cn_le : ∀ {p : Nat}, callNat p ws row = some c → p ≤ 12
  | 0, _ | 1, _ | 2, _ | 3, _ | 4, _ | 5, _ | 6, _ | 7, _ | 8, _ | 9, _ | 10, _ | 11, _ | 12, _ => by omega
  | p + 13, h => by
    unfold callNat at h
    split at h <;> first | omega | cases h
theorem cn_0 (h : callNat 0 ws row = some c) : ∃ w hh, ws = [w, hh] ∧ c = .page w hh := by
  match ws, h with
  | [], e => cases e
  | [_], e => cases e
  | [y0, y1], e => exact ⟨y0, y1, rfl, (Option.some.inj e).symm⟩
  | _ :: _ :: _ :: _, e => cases e
theorem cn_1 (h : callNat 1 ws row = some c) : ws = [] ∧ c = .layer row := by
  match ws, h with
  | [], e => exact ⟨rfl, (Option.some.inj e).symm⟩
  | [_], e => cases e
  | [_, _], e => cases e
  | _ :: _ :: _ :: _, e => cases e
theorem cn_2 (h : callNat 2 ws row = some c) : ∃ i, ws = [i] ∧ c = .cells i row := by
  match ws, h with
  | [], e => cases e
  | [y0], e => exact ⟨y0, rfl, (Option.some.inj e).symm⟩
  | [_, _], e => cases e
  | _ :: _ :: _ :: _, e => cases e
theorem cn_3 (h : callNat 3 ws row = some c) : ∃ k, ws = [k] ∧ c = .other k row := by
  match ws, h with
  | [], e => cases e
  | [y0], e => exact ⟨y0, rfl, (Option.some.inj e).symm⟩
  | [_, _], e => cases e
  | _ :: _ :: _ :: _, e => cases e
theorem cn_4 (h : callNat 4 ws row = some c) : ∃ i, ws = [i] ∧ c = .drop i := by
  match ws, h with
  | [], e => cases e
  | [y0], e => exact ⟨y0, rfl, (Option.some.inj e).symm⟩
  | [_, _], e => cases e
  | _ :: _ :: _ :: _, e => cases e
theorem cn_5 (h : callNat 5 ws row = some c) : ws = [] ∧ c = .write := by
  match ws, h with
  | [], e => exact ⟨rfl, (Option.some.inj e).symm⟩
  | [_], e => cases e
  | [_, _], e => cases e
  | _ :: _ :: _ :: _, e => cases e
theorem cn_6 (h : callNat 6 ws row = some c) : ws = [] ∧ c = .read row := by
  match ws, h with
  | [], e => exact ⟨rfl, (Option.some.inj e).symm⟩
  | [_], e => cases e
  | [_, _], e => cases e
  | _ :: _ :: _ :: _, e => cases e
theorem cn_7 (h : callNat 7 ws row = some c) : ws = [] ∧ c = .mend row := by
  match ws, h with
  | [], e => exact ⟨rfl, (Option.some.inj e).symm⟩
  | [_], e => cases e
  | [_, _], e => cases e
  | _ :: _ :: _ :: _, e => cases e
theorem cn_8 (h : callNat 8 ws row = some c) : ws = [] ∧ c = .shows := by
  match ws, h with
  | [], e => exact ⟨rfl, (Option.some.inj e).symm⟩
  | [_], e => cases e
  | [_, _], e => cases e
  | _ :: _ :: _ :: _, e => cases e
theorem cn_9 (h : callNat 9 ws row = some c) : ∃ i, ws = [i] ∧ c = .look i := by
  match ws, h with
  | [], e => cases e
  | [y0], e => exact ⟨y0, rfl, (Option.some.inj e).symm⟩
  | [_, _], e => cases e
  | _ :: _ :: _ :: _, e => cases e
theorem cn_10 (h : callNat 10 ws row = some c) : ws = [] ∧ c = .others := by
  match ws, h with
  | [], e => exact ⟨rfl, (Option.some.inj e).symm⟩
  | [_], e => cases e
  | [_, _], e => cases e
  | _ :: _ :: _ :: _, e => cases e
theorem cn_11 (h : callNat 11 ws row = some c) : ws = [] ∧ c = .short row := by
  match ws, h with
  | [], e => exact ⟨rfl, (Option.some.inj e).symm⟩
  | [_], e => cases e
  | [_, _], e => cases e
  | _ :: _ :: _ :: _, e => cases e
theorem cn_12 (h : callNat 12 ws row = some c) : ∃ n, ws = [n] ∧ c = .long n row := by
  match ws, h with
  | [], e => cases e
  | [y0], e => exact ⟨y0, rfl, (Option.some.inj e).symm⟩
  | [_, _], e => cases e
  | _ :: _ :: _ :: _, e => cases e
end
section
variable {P : Program} {w : World} {K : PySem.W.Frag} {mg : Str → Option Value} {base : Heap} {CL CD : Addr}
/-! ### answer -/
/-- answer: slots 0 document 1 call 2 whole 3 row -/
abbrev s_answer : Stmt := top 109
abbrev N_answer : List Str := ["document", "call", "whole", "row"]
theorem sc_answer : FnScope N_answer ["document", "call", "whole", "row"] (defScope s_answer) := ⟨rfl, rfl, rfl, by decide +kernel, rfl, by decide +kernel, by decide +kernel⟩
theorem ok_answer {f : Addr} {fd : FuncData} (T : Txt K mg)
    (C_page : Callee P w K mg base 3 "page" ["document", "columns", "rows"] (spPage CL CD))
    (C_layer : Callee P w K mg base 3 "layer" ["document", "name"] (spLayer CL CD))
    (C_cells : Callee P w K mg base 7 "cells" ["document", "i", "numbers"] (spCells CL CD))
    (C_other : Callee P w K mg base 2 "other" ["document", "kind", "some_bytes"] (spOther CL CD))
    (C_drop : Callee P w K mg base 1 "drop" ["document", "i"] (spDrop CL CD))
    (C_write : Callee P w K mg base 9 "write" ["document"] (spWrite CL CD))
    (C_read : Callee P w K mg base 8 "read" ["document", "some_bytes"] (spRead CL CD))
    (C_mend : Callee P w K mg base 7 "mend" ["document", "some_bytes"] (spMend CL CD))
    (C_shows : Callee P w K mg base 2 "shows" ["document"] (spShows CL CD))
    (C_look : Callee P w K mg base 1 "look" ["document", "i"] (spLook CL CD))
    (C_others : Callee P w K mg base 1 "others" ["document"] (spOthers CL CD))
    (C_short : Callee P w K mg base 5 "short" ["numbers"] (spShort CL CD))
    (C_long : Callee P w K mg base 4 "long" ["n", "some_bytes"] (spLong CL CD))
    (F : Fun K "answer" "answer" s_answer f fd) : FnOk P w K mg base CX0 10 f fd ["document", "call", "whole", "row"] (spAnswer CL CD) := by
  refine F.ok sc_answer (fun vs H Q E h => ?_) (fun cdv A outer s H vs Q E hr h => ?_)
  · obtain ⟨d, wa, ra, x, S, p, ws, row, c, rfl, _⟩ := h
    rfl
  · obtain ⟨d, wa, ra, x, S, p, ws, row, c, rfl, DA, W, hwa, hra, hrl, nra, hc, q⟩ := h
    have p12 := cn_le hc
    refine ⟨_, (pss_cons (ps_if (pt_cmpR op_eq (pv 1) (pe_k T.c_PAGE) (nomark _))
      (pss_one (ps_ret (pe_cc C_page (hr.mono (by decide)) (pa_cons (pv 0) (pa_cons (pe_ix ix_list (pv 2) pe_int (fun _ _ => rfl)) (pa_cons (pe_ix ix_list (pv 2) pe_int (fun _ _ => rfl)) pa_nil))))))
      pss_nil)
      (pss_cons (ps_if (pt_cmpR op_eq (pv 1) (pe_k T.c_LAYER) (nomark _))
      (pss_one (ps_ret (pe_cc C_layer (hr.mono (by decide)) (pa_cons (pv 0) (pa_cons (pv 3) pa_nil)))))
      pss_nil)
      (pss_cons (ps_if (pt_cmpR op_eq (pv 1) (pe_k T.c_CELLS) (nomark _))
      (pss_one (ps_ret (pe_cc C_cells (hr.mono (by decide)) (pa_cons (pv 0) (pa_cons (pe_ix ix_list (pv 2) pe_int (fun _ _ => rfl)) (pa_cons (pv 3) pa_nil))))))
      pss_nil)
      (pss_cons (ps_if (pt_cmpR op_eq (pv 1) (pe_k T.c_OTHER) (nomark _))
      (pss_one (ps_ret (pe_cc C_other (hr.mono (by decide)) (pa_cons (pv 0) (pa_cons (pe_ix ix_list (pv 2) pe_int (fun _ _ => rfl)) (pa_cons (pv 3) pa_nil))))))
      pss_nil)
      (pss_cons (ps_if (pt_cmpR op_eq (pv 1) (pe_k T.c_DROP) (nomark _))
      (pss_one (ps_ret (pe_cc C_drop (hr.mono (by decide)) (pa_cons (pv 0) (pa_cons (pe_ix ix_list (pv 2) pe_int (fun _ _ => rfl)) pa_nil)))))
      pss_nil)
      (pss_cons (ps_if (pt_cmpR op_eq (pv 1) (pe_k T.c_WRITE) (nomark _))
      (pss_one (ps_ret (pe_cc C_write (hr.mono (by decide)) (pa_cons (pv 0) pa_nil))))
      pss_nil)
      (pss_cons (ps_if (pt_cmpR op_eq (pv 1) (pe_k T.c_READ) (nomark _))
      (pss_one (ps_ret (pe_cc C_read (hr.mono (by decide)) (pa_cons (pv 0) (pa_cons (pv 3) pa_nil)))))
      pss_nil)
      (pss_cons (ps_if (pt_cmpR op_eq (pv 1) (pe_k T.c_MEND) (nomark _))
      (pss_one (ps_ret (pe_cc C_mend (hr.mono (by decide)) (pa_cons (pv 0) (pa_cons (pv 3) pa_nil)))))
      pss_nil)
      (pss_cons (ps_if (pt_cmpR op_eq (pv 1) (pe_k T.c_SHOWS) (nomark _))
      (pss_one (ps_ret (pe_cc C_shows (hr.mono (by decide)) (pa_cons (pv 0) pa_nil))))
      pss_nil)
      (pss_cons (ps_if (pt_cmpR op_eq (pv 1) (pe_k T.c_LOOK) (nomark _))
      (pss_one (ps_ret (pe_cc C_look (hr.mono (by decide)) (pa_cons (pv 0) (pa_cons (pe_ix ix_list (pv 2) pe_int (fun _ _ => rfl)) pa_nil)))))
      pss_nil)
      (pss_cons (ps_if (pt_cmpR op_eq (pv 1) (pe_k T.c_OTHERS) (nomark _))
      (pss_one (ps_ret (pe_cc C_others (hr.mono (by decide)) (pa_cons (pv 0) pa_nil))))
      pss_nil)
      (pss_cons (ps_if (pt_cmpR op_eq (pv 1) (pe_k T.c_SHORT) (nomark _))
      (pss_one (ps_ret (pe_cc C_short (hr.mono (by decide)) (pa_cons (pv 3) pa_nil))))
      pss_nil)
      (pss_one (ps_ret (pe_cc C_long (hr.mono (by decide)) (pa_cons (pe_ix ix_list (pv 2) pe_int (fun _ _ => rfl)) (pa_cons (pv 3) pa_nil))))))))))))))))), ?_⟩
    refine ⟨_, rfl, rfl, _, rfl, ite2 (fun c0 => ?_) (fun c0 => ?_)⟩
    · have ep : p = 0 := by
        have := V.int.inj (of_decide_eq_true c0)
        omega
      subst ep
      obtain ⟨w, h, rfl, rfl⟩ := cn_0 hc
      exact ⟨_, rfl, _, rfl, wa, _, _, _, rfl, rfl, SqL.of hwa, nv_at (i := 0) (x := w) rfl, _, rfl, wa, _, _, _, rfl, rfl, SqL.of hwa, nv_at (i := 1) (x := h) rfl, d, x, S, the ra, w, h, rfl, DA, W, the_ne hra, q⟩
    have n0 : p ≠ 0 := fun z => c0 (decide_eq_true (by rw [z]; rfl))
    refine ⟨_, rfl, rfl, _, rfl, ite2 (fun c1 => ?_) (fun c1 => ?_)⟩
    · have ep : p = 1 := by
        have := V.int.inj (of_decide_eq_true c1)
        omega
      subst ep
      obtain ⟨rfl, rfl⟩ := cn_1 hc
      exact ⟨_, rfl, _, rfl, d, ra, x, S, row, rfl, DA, W, hra, hrl, nra, q⟩
    have n1 : p ≠ 1 := fun z => c1 (decide_eq_true (by rw [z]; rfl))
    refine ⟨_, rfl, rfl, _, rfl, ite2 (fun c2 => ?_) (fun c2 => ?_)⟩
    · have ep : p = 2 := by
        have := V.int.inj (of_decide_eq_true c2)
        omega
      subst ep
      obtain ⟨i, rfl, rfl⟩ := cn_2 hc
      exact ⟨_, rfl, _, rfl, wa, _, _, _, rfl, rfl, SqL.of hwa, nv_at (i := 0) (x := i) rfl, _, rfl, d, ra, x, S, i, row, rfl, DA, W, hra, hrl, nra, q⟩
    have n2 : p ≠ 2 := fun z => c2 (decide_eq_true (by rw [z]; rfl))
    refine ⟨_, rfl, rfl, _, rfl, ite2 (fun c3 => ?_) (fun c3 => ?_)⟩
    · have ep : p = 3 := by
        have := V.int.inj (of_decide_eq_true c3)
        omega
      subst ep
      obtain ⟨k, rfl, rfl⟩ := cn_3 hc
      exact ⟨_, rfl, _, rfl, wa, _, _, _, rfl, rfl, SqL.of hwa, nv_at (i := 0) (x := k) rfl, _, rfl, d, ra, x, S, k, row, rfl, DA, W, hra, hrl, nra, q⟩
    have n3 : p ≠ 3 := fun z => c3 (decide_eq_true (by rw [z]; rfl))
    refine ⟨_, rfl, rfl, _, rfl, ite2 (fun c4 => ?_) (fun c4 => ?_)⟩
    · have ep : p = 4 := by
        have := V.int.inj (of_decide_eq_true c4)
        omega
      subst ep
      obtain ⟨i, rfl, rfl⟩ := cn_4 hc
      exact ⟨_, rfl, _, rfl, wa, _, _, _, rfl, rfl, SqL.of hwa, nv_at (i := 0) (x := i) rfl, d, x, S, the ra, i, rfl, DA, W, q⟩
    have n4 : p ≠ 4 := fun z => c4 (decide_eq_true (by rw [z]; rfl))
    refine ⟨_, rfl, rfl, _, rfl, ite2 (fun c5 => ?_) (fun c5 => ?_)⟩
    · have ep : p = 5 := by
        have := V.int.inj (of_decide_eq_true c5)
        omega
      subst ep
      obtain ⟨rfl, rfl⟩ := cn_5 hc
      exact ⟨_, rfl, d, x, S, the ra, rfl, DA, W, q⟩
    have n5 : p ≠ 5 := fun z => c5 (decide_eq_true (by rw [z]; rfl))
    refine ⟨_, rfl, rfl, _, rfl, ite2 (fun c6 => ?_) (fun c6 => ?_)⟩
    · have ep : p = 6 := by
        have := V.int.inj (of_decide_eq_true c6)
        omega
      subst ep
      obtain ⟨rfl, rfl⟩ := cn_6 hc
      exact ⟨_, rfl, _, rfl, d, ra, x, S, the ra, row, rfl, DA, W, the_ne hra, hra, hrl, q⟩
    have n6 : p ≠ 6 := fun z => c6 (decide_eq_true (by rw [z]; rfl))
    refine ⟨_, rfl, rfl, _, rfl, ite2 (fun c7 => ?_) (fun c7 => ?_)⟩
    · have ep : p = 7 := by
        have := V.int.inj (of_decide_eq_true c7)
        omega
      subst ep
      obtain ⟨rfl, rfl⟩ := cn_7 hc
      exact ⟨_, rfl, _, rfl, d, ra, x, S, the ra, row, rfl, DA, W, hra, hrl, q⟩
    have n7 : p ≠ 7 := fun z => c7 (decide_eq_true (by rw [z]; rfl))
    refine ⟨_, rfl, rfl, _, rfl, ite2 (fun c8 => ?_) (fun c8 => ?_)⟩
    · have ep : p = 8 := by
        have := V.int.inj (of_decide_eq_true c8)
        omega
      subst ep
      obtain ⟨rfl, rfl⟩ := cn_8 hc
      exact ⟨_, rfl, d, x, S, the ra, rfl, DA, W, q⟩
    have n8 : p ≠ 8 := fun z => c8 (decide_eq_true (by rw [z]; rfl))
    refine ⟨_, rfl, rfl, _, rfl, ite2 (fun c9 => ?_) (fun c9 => ?_)⟩
    · have ep : p = 9 := by
        have := V.int.inj (of_decide_eq_true c9)
        omega
      subst ep
      obtain ⟨i, rfl, rfl⟩ := cn_9 hc
      exact ⟨_, rfl, _, rfl, wa, _, _, _, rfl, rfl, SqL.of hwa, nv_at (i := 0) (x := i) rfl, d, x, S, the ra, i, rfl, DA, W, q⟩
    have n9 : p ≠ 9 := fun z => c9 (decide_eq_true (by rw [z]; rfl))
    refine ⟨_, rfl, rfl, _, rfl, ite2 (fun c10 => ?_) (fun c10 => ?_)⟩
    · have ep : p = 10 := by
        have := V.int.inj (of_decide_eq_true c10)
        omega
      subst ep
      obtain ⟨rfl, rfl⟩ := cn_10 hc
      exact ⟨_, rfl, d, x, S, the ra, rfl, DA, W, q⟩
    have n10 : p ≠ 10 := fun z => c10 (decide_eq_true (by rw [z]; rfl))
    refine ⟨_, rfl, rfl, _, rfl, ite2 (fun c11 => ?_) (fun c11 => ?_)⟩
    · have ep : p = 11 := by
        have := V.int.inj (of_decide_eq_true c11)
        omega
      subst ep
      obtain ⟨rfl, rfl⟩ := cn_11 hc
      exact ⟨_, rfl, d, ra, x, S, the ra, row, rfl, DA, W, hra, hrl, q⟩
    have n11 : p ≠ 11 := fun z => c11 (decide_eq_true (by rw [z]; rfl))
    have e12 : p = 12 := by omega
    subst e12
    obtain ⟨n, rfl, rfl⟩ := cn_12 hc
    exact ⟨_, rfl, wa, _, _, _, rfl, rfl, SqL.of hwa, nv_at (i := 0) (x := n) rfl, _, rfl, d, ra, x, S, the ra, n, row, rfl, DA, W, hra, hrl, q⟩
end
end Pf
end
section
set_option Elab.async false
set_option linter.all false
set_option maxRecDepth 100000
set_option maxHeartbeats 4000000
namespace Pf
open PySem PySem.Spec PyProof.Rows L2
theorem bnd_is_page : ∀ (kV doc pm : Value) (an : Option Addr) (cdv ct : Value) (us : List Value), us.length = (["columns", "rows"] : List Str).length → bindArgs (PySem.W.fnOf "is_page" "is_page" (defArgs s_is_page) (defBody s_is_page) (defScope s_is_page) .none kV doc pm an cdv ct) ⟨us, []⟩ = pure ((["columns", "rows"] : List Str).zip us) := fun _ _ _ _ _ _ us hl => match us, hl with | [_, _], _ => rfl
theorem bnd_are_bytes : ∀ (kV doc pm : Value) (an : Option Addr) (cdv ct : Value) (us : List Value), us.length = (["numbers"] : List Str).length → bindArgs (PySem.W.fnOf "are_bytes" "are_bytes" (defArgs s_are_bytes) (defBody s_are_bytes) (defScope s_are_bytes) .none kV doc pm an cdv ct) ⟨us, []⟩ = pure ((["numbers"] : List Str).zip us) := fun _ _ _ _ _ _ us hl => match us, hl with | [_], _ => rfl
theorem bnd_byte_sum : ∀ (kV doc pm : Value) (an : Option Addr) (cdv ct : Value) (us : List Value), us.length = (["some_bytes"] : List Str).length → bindArgs (PySem.W.fnOf "byte_sum" "byte_sum" (defArgs s_byte_sum) (defBody s_byte_sum) (defScope s_byte_sum) .none kV doc pm an cdv ct) ⟨us, []⟩ = pure ((["some_bytes"] : List Str).zip us) := fun _ _ _ _ _ _ us hl => match us, hl with | [_], _ => rfl
theorem bnd_two_bytes : ∀ (kV doc pm : Value) (an : Option Addr) (cdv ct : Value) (us : List Value), us.length = (["number"] : List Str).length → bindArgs (PySem.W.fnOf "two_bytes" "two_bytes" (defArgs s_two_bytes) (defBody s_two_bytes) (defScope s_two_bytes) .none kV doc pm an cdv ct) ⟨us, []⟩ = pure ((["number"] : List Str).zip us) := fun _ _ _ _ _ _ us hl => match us, hl with | [_], _ => rfl
theorem bnd_written_part : ∀ (kV doc pm : Value) (an : Option Addr) (cdv ct : Value) (us : List Value), us.length = (["kind", "body"] : List Str).length → bindArgs (PySem.W.fnOf "written_part" "written_part" (defArgs s_written_part) (defBody s_written_part) (defScope s_written_part) .none kV doc pm an cdv ct) ⟨us, []⟩ = pure ((["kind", "body"] : List Str).zip us) := fun _ _ _ _ _ _ us hl => match us, hl with | [_, _], _ => rfl
theorem bnd_whole_part : ∀ (kV doc pm : Value) (an : Option Addr) (cdv ct : Value) (us : List Value), us.length = (["some_bytes", "at"] : List Str).length → bindArgs (PySem.W.fnOf "whole_part" "whole_part" (defArgs s_whole_part) (defBody s_whole_part) (defScope s_whole_part) .none kV doc pm an cdv ct) ⟨us, []⟩ = pure ((["some_bytes", "at"] : List Str).zip us) := fun _ _ _ _ _ _ us hl => match us, hl with | [_, _], _ => rfl
theorem bnd_alike_from : ∀ (kV doc pm : Value) (an : Option Addr) (cdv ct : Value) (us : List Value), us.length = (["numbers", "at"] : List Str).length → bindArgs (PySem.W.fnOf "alike_from" "alike_from" (defArgs s_alike_from) (defBody s_alike_from) (defScope s_alike_from) .none kV doc pm an cdv ct) ⟨us, []⟩ = pure ((["numbers", "at"] : List Str).zip us) := fun _ _ _ _ _ _ us hl => match us, hl with | [_, _], _ => rfl
theorem bnd_begins_alike : ∀ (kV doc pm : Value) (an : Option Addr) (cdv ct : Value) (us : List Value), us.length = (["numbers", "at"] : List Str).length → bindArgs (PySem.W.fnOf "begins_alike" "begins_alike" (defArgs s_begins_alike) (defBody s_begins_alike) (defScope s_begins_alike) .none kV doc pm an cdv ct) ⟨us, []⟩ = pure ((["numbers", "at"] : List Str).zip us) := fun _ _ _ _ _ _ us hl => match us, hl with | [_, _], _ => rfl
theorem bnd_unlike_from : ∀ (kV doc pm : Value) (an : Option Addr) (cdv ct : Value) (us : List Value), us.length = (["numbers", "at"] : List Str).length → bindArgs (PySem.W.fnOf "unlike_from" "unlike_from" (defArgs s_unlike_from) (defBody s_unlike_from) (defScope s_unlike_from) .none kV doc pm an cdv ct) ⟨us, []⟩ = pure ((["numbers", "at"] : List Str).zip us) := fun _ _ _ _ _ _ us hl => match us, hl with | [_, _], _ => rfl
theorem bnd_in_short : ∀ (kV doc pm : Value) (an : Option Addr) (cdv ct : Value) (us : List Value), us.length = (["numbers"] : List Str).length → bindArgs (PySem.W.fnOf "in_short" "in_short" (defArgs s_in_short) (defBody s_in_short) (defScope s_in_short) .none kV doc pm an cdv ct) ⟨us, []⟩ = pure ((["numbers"] : List Str).zip us) := fun _ _ _ _ _ _ us hl => match us, hl with | [_], _ => rfl
theorem bnd_read_stretch : ∀ (kV doc pm : Value) (an : Option Addr) (cdv ct : Value) (us : List Value), us.length = (["some_bytes", "at"] : List Str).length → bindArgs (PySem.W.fnOf "read_stretch" "read_stretch" (defArgs s_read_stretch) (defBody s_read_stretch) (defScope s_read_stretch) .none kV doc pm an cdv ct) ⟨us, []⟩ = pure ((["some_bytes", "at"] : List Str).zip us) := fun _ _ _ _ _ _ us hl => match us, hl with | [_, _], _ => rfl
theorem bnd_read_short : ∀ (kV doc pm : Value) (an : Option Addr) (cdv ct : Value) (us : List Value), us.length = (["some_bytes", "at", "wanted"] : List Str).length → bindArgs (PySem.W.fnOf "read_short" "read_short" (defArgs s_read_short) (defBody s_read_short) (defScope s_read_short) .none kV doc pm an cdv ct) ⟨us, []⟩ = pure ((["some_bytes", "at", "wanted"] : List Str).zip us) := fun _ _ _ _ _ _ us hl => match us, hl with | [_, _, _], _ => rfl
theorem bnd_whole_short : ∀ (kV doc pm : Value) (an : Option Addr) (cdv ct : Value) (us : List Value), us.length = (["some_bytes", "wanted"] : List Str).length → bindArgs (PySem.W.fnOf "whole_short" "whole_short" (defArgs s_whole_short) (defBody s_whole_short) (defScope s_whole_short) .none kV doc pm an cdv ct) ⟨us, []⟩ = pure ((["some_bytes", "wanted"] : List Str).zip us) := fun _ _ _ _ _ _ us hl => match us, hl with | [_, _], _ => rfl
theorem bnd_less : ∀ (kV doc pm : Value) (an : Option Addr) (cdv ct : Value) (us : List Value), us.length = (["row", "others"] : List Str).length → bindArgs (PySem.W.fnOf "less" "less" (defArgs s_less) (defBody s_less) (defScope s_less) .none kV doc pm an cdv ct) ⟨us, []⟩ = pure ((["row", "others"] : List Str).zip us) := fun _ _ _ _ _ _ us hl => match us, hl with | [_, _], _ => rfl
theorem bnd_written_row : ∀ (kV doc pm : Value) (an : Option Addr) (cdv ct : Value) (us : List Value), us.length = (["row", "above"] : List Str).length → bindArgs (PySem.W.fnOf "written_row" "written_row" (defArgs s_written_row) (defBody s_written_row) (defScope s_written_row) .none kV doc pm an cdv ct) ⟨us, []⟩ = pure ((["row", "above"] : List Str).zip us) := fun _ _ _ _ _ _ us hl => match us, hl with | [_, _], _ => rfl
theorem bnd_written_rows : ∀ (kV doc pm : Value) (an : Option Addr) (cdv ct : Value) (us : List Value), us.length = (["numbers", "columns"] : List Str).length → bindArgs (PySem.W.fnOf "written_rows" "written_rows" (defArgs s_written_rows) (defBody s_written_rows) (defScope s_written_rows) .none kV doc pm an cdv ct) ⟨us, []⟩ = pure ((["numbers", "columns"] : List Str).zip us) := fun _ _ _ _ _ _ us hl => match us, hl with | [_, _], _ => rfl
theorem bnd_added_up : ∀ (kV doc pm : Value) (an : Option Addr) (cdv ct : Value) (us : List Value), us.length = (["told"] : List Str).length → bindArgs (PySem.W.fnOf "added_up" "added_up" (defArgs s_added_up) (defBody s_added_up) (defScope s_added_up) .none kV doc pm an cdv ct) ⟨us, []⟩ = pure ((["told"] : List Str).zip us) := fun _ _ _ _ _ _ us hl => match us, hl with | [_], _ => rfl
theorem bnd_untold : ∀ (kV doc pm : Value) (an : Option Addr) (cdv ct : Value) (us : List Value), us.length = (["way", "told", "above"] : List Str).length → bindArgs (PySem.W.fnOf "untold" "untold" (defArgs s_untold) (defBody s_untold) (defScope s_untold) .none kV doc pm an cdv ct) ⟨us, []⟩ = pure ((["way", "told", "above"] : List Str).zip us) := fun _ _ _ _ _ _ us hl => match us, hl with | [_, _, _], _ => rfl
theorem bnd_read_rows : ∀ (kV doc pm : Value) (an : Option Addr) (cdv ct : Value) (us : List Value), us.length = (["body", "at", "columns", "rows"] : List Str).length → bindArgs (PySem.W.fnOf "read_rows" "read_rows" (defArgs s_read_rows) (defBody s_read_rows) (defScope s_read_rows) .none kV doc pm an cdv ct) ⟨us, []⟩ = pure ((["body", "at", "columns", "rows"] : List Str).zip us) := fun _ _ _ _ _ _ us hl => match us, hl with | [_, _, _, _], _ => rfl
theorem bnd_layer_body : ∀ (kV doc pm : Value) (an : Option Addr) (cdv ct : Value) (us : List Value), us.length = (["layer", "columns"] : List Str).length → bindArgs (PySem.W.fnOf "layer_body" "layer_body" (defArgs s_layer_body) (defBody s_layer_body) (defScope s_layer_body) .none kV doc pm an cdv ct) ⟨us, []⟩ = pure ((["layer", "columns"] : List Str).zip us) := fun _ _ _ _ _ _ us hl => match us, hl with | [_, _], _ => rfl
theorem bnd_written_file : ∀ (kV doc pm : Value) (an : Option Addr) (cdv ct : Value) (us : List Value), us.length = (["document"] : List Str).length → bindArgs (PySem.W.fnOf "written_file" "written_file" (defArgs s_written_file) (defBody s_written_file) (defScope s_written_file) .none kV doc pm an cdv ct) ⟨us, []⟩ = pure ((["document"] : List Str).zip us) := fun _ _ _ _ _ _ us hl => match us, hl with | [_], _ => rfl
theorem bnd_layer_of : ∀ (kV doc pm : Value) (an : Option Addr) (cdv ct : Value) (us : List Value), us.length = (["body", "columns", "rows"] : List Str).length → bindArgs (PySem.W.fnOf "layer_of" "layer_of" (defArgs s_layer_of) (defBody s_layer_of) (defScope s_layer_of) .none kV doc pm an cdv ct) ⟨us, []⟩ = pure ((["body", "columns", "rows"] : List Str).zip us) := fun _ _ _ _ _ _ us hl => match us, hl with | [_, _, _], _ => rfl
theorem bnd_page_of : ∀ (kV doc pm : Value) (an : Option Addr) (cdv ct : Value) (us : List Value), us.length = (["body"] : List Str).length → bindArgs (PySem.W.fnOf "page_of" "page_of" (defArgs s_page_of) (defBody s_page_of) (defScope s_page_of) .none kV doc pm an cdv ct) ⟨us, []⟩ = pure ((["body"] : List Str).zip us) := fun _ _ _ _ _ _ us hl => match us, hl with | [_], _ => rfl
theorem bnd_take_page : ∀ (kV doc pm : Value) (an : Option Addr) (cdv ct : Value) (us : List Value), us.length = (["document", "body"] : List Str).length → bindArgs (PySem.W.fnOf "take_page" "take_page" (defArgs s_take_page) (defBody s_take_page) (defScope s_take_page) .none kV doc pm an cdv ct) ⟨us, []⟩ = pure ((["document", "body"] : List Str).zip us) := fun _ _ _ _ _ _ us hl => match us, hl with | [_, _], _ => rfl
theorem bnd_take_layer : ∀ (kV doc pm : Value) (an : Option Addr) (cdv ct : Value) (us : List Value), us.length = (["document", "body"] : List Str).length → bindArgs (PySem.W.fnOf "take_layer" "take_layer" (defArgs s_take_layer) (defBody s_take_layer) (defScope s_take_layer) .none kV doc pm an cdv ct) ⟨us, []⟩ = pure ((["document", "body"] : List Str).zip us) := fun _ _ _ _ _ _ us hl => match us, hl with | [_, _], _ => rfl
theorem bnd_take_other : ∀ (kV doc pm : Value) (an : Option Addr) (cdv ct : Value) (us : List Value), us.length = (["document", "kind", "body"] : List Str).length → bindArgs (PySem.W.fnOf "take_other" "take_other" (defArgs s_take_other) (defBody s_take_other) (defScope s_take_other) .none kV doc pm an cdv ct) ⟨us, []⟩ = pure ((["document", "kind", "body"] : List Str).zip us) := fun _ _ _ _ _ _ us hl => match us, hl with | [_, _, _], _ => rfl
theorem bnd_take_end : ∀ (kV doc pm : Value) (an : Option Addr) (cdv ct : Value) (us : List Value), us.length = (["body", "left"] : List Str).length → bindArgs (PySem.W.fnOf "take_end" "take_end" (defArgs s_take_end) (defBody s_take_end) (defScope s_take_end) .none kV doc pm an cdv ct) ⟨us, []⟩ = pure ((["body", "left"] : List Str).zip us) := fun _ _ _ _ _ _ us hl => match us, hl with | [_, _], _ => rfl
theorem bnd_take_part : ∀ (kV doc pm : Value) (an : Option Addr) (cdv ct : Value) (us : List Value), us.length = (["document", "kind", "body", "left"] : List Str).length → bindArgs (PySem.W.fnOf "take_part" "take_part" (defArgs s_take_part) (defBody s_take_part) (defScope s_take_part) .none kV doc pm an cdv ct) ⟨us, []⟩ = pure ((["document", "kind", "body", "left"] : List Str).zip us) := fun _ _ _ _ _ _ us hl => match us, hl with | [_, _, _, _], _ => rfl
theorem bnd_behind_beginning : ∀ (kV doc pm : Value) (an : Option Addr) (cdv ct : Value) (us : List Value), us.length = (["some_bytes"] : List Str).length → bindArgs (PySem.W.fnOf "behind_beginning" "behind_beginning" (defArgs s_behind_beginning) (defBody s_behind_beginning) (defScope s_behind_beginning) .none kV doc pm an cdv ct) ⟨us, []⟩ = pure ((["some_bytes"] : List Str).zip us) := fun _ _ _ _ _ _ us hl => match us, hl with | [_], _ => rfl
theorem bnd_read_file : ∀ (kV doc pm : Value) (an : Option Addr) (cdv ct : Value) (us : List Value), us.length = (["some_bytes"] : List Str).length → bindArgs (PySem.W.fnOf "read_file" "read_file" (defArgs s_read_file) (defBody s_read_file) (defScope s_read_file) .none kV doc pm an cdv ct) ⟨us, []⟩ = pure ((["some_bytes"] : List Str).zip us) := fun _ _ _ _ _ _ us hl => match us, hl with | [_], _ => rfl
theorem bnd_saved_parts : ∀ (kV doc pm : Value) (an : Option Addr) (cdv ct : Value) (us : List Value), us.length = (["some_bytes"] : List Str).length → bindArgs (PySem.W.fnOf "saved_parts" "saved_parts" (defArgs s_saved_parts) (defBody s_saved_parts) (defScope s_saved_parts) .none kV doc pm an cdv ct) ⟨us, []⟩ = pure ((["some_bytes"] : List Str).zip us) := fun _ _ _ _ _ _ us hl => match us, hl with | [_], _ => rfl
theorem bnd_saved_page : ∀ (kV doc pm : Value) (an : Option Addr) (cdv ct : Value) (us : List Value), us.length = (["parts"] : List Str).length → bindArgs (PySem.W.fnOf "saved_page" "saved_page" (defArgs s_saved_page) (defBody s_saved_page) (defScope s_saved_page) .none kV doc pm an cdv ct) ⟨us, []⟩ = pure ((["parts"] : List Str).zip us) := fun _ _ _ _ _ _ us hl => match us, hl with | [_], _ => rfl
theorem bnd_mended : ∀ (kV doc pm : Value) (an : Option Addr) (cdv ct : Value) (us : List Value), us.length = (["some_bytes"] : List Str).length → bindArgs (PySem.W.fnOf "mended" "mended" (defArgs s_mended) (defBody s_mended) (defScope s_mended) .none kV doc pm an cdv ct) ⟨us, []⟩ = pure ((["some_bytes"] : List Str).zip us) := fun _ _ _ _ _ _ us hl => match us, hl with | [_], _ => rfl
theorem bnd_page : ∀ (kV doc pm : Value) (an : Option Addr) (cdv ct : Value) (us : List Value), us.length = (["document", "columns", "rows"] : List Str).length → bindArgs (PySem.W.fnOf "page" "page" (defArgs s_page) (defBody s_page) (defScope s_page) .none kV doc pm an cdv ct) ⟨us, []⟩ = pure ((["document", "columns", "rows"] : List Str).zip us) := fun _ _ _ _ _ _ us hl => match us, hl with | [_, _, _], _ => rfl
theorem bnd_layer : ∀ (kV doc pm : Value) (an : Option Addr) (cdv ct : Value) (us : List Value), us.length = (["document", "name"] : List Str).length → bindArgs (PySem.W.fnOf "layer" "layer" (defArgs s_layer) (defBody s_layer) (defScope s_layer) .none kV doc pm an cdv ct) ⟨us, []⟩ = pure ((["document", "name"] : List Str).zip us) := fun _ _ _ _ _ _ us hl => match us, hl with | [_, _], _ => rfl
theorem bnd_cells : ∀ (kV doc pm : Value) (an : Option Addr) (cdv ct : Value) (us : List Value), us.length = (["document", "i", "numbers"] : List Str).length → bindArgs (PySem.W.fnOf "cells" "cells" (defArgs s_cells) (defBody s_cells) (defScope s_cells) .none kV doc pm an cdv ct) ⟨us, []⟩ = pure ((["document", "i", "numbers"] : List Str).zip us) := fun _ _ _ _ _ _ us hl => match us, hl with | [_, _, _], _ => rfl
theorem bnd_other : ∀ (kV doc pm : Value) (an : Option Addr) (cdv ct : Value) (us : List Value), us.length = (["document", "kind", "some_bytes"] : List Str).length → bindArgs (PySem.W.fnOf "other" "other" (defArgs s_other) (defBody s_other) (defScope s_other) .none kV doc pm an cdv ct) ⟨us, []⟩ = pure ((["document", "kind", "some_bytes"] : List Str).zip us) := fun _ _ _ _ _ _ us hl => match us, hl with | [_, _, _], _ => rfl
theorem bnd_drop : ∀ (kV doc pm : Value) (an : Option Addr) (cdv ct : Value) (us : List Value), us.length = (["document", "i"] : List Str).length → bindArgs (PySem.W.fnOf "drop" "drop" (defArgs s_drop) (defBody s_drop) (defScope s_drop) .none kV doc pm an cdv ct) ⟨us, []⟩ = pure ((["document", "i"] : List Str).zip us) := fun _ _ _ _ _ _ us hl => match us, hl with | [_, _], _ => rfl
theorem bnd_write : ∀ (kV doc pm : Value) (an : Option Addr) (cdv ct : Value) (us : List Value), us.length = (["document"] : List Str).length → bindArgs (PySem.W.fnOf "write" "write" (defArgs s_write) (defBody s_write) (defScope s_write) .none kV doc pm an cdv ct) ⟨us, []⟩ = pure ((["document"] : List Str).zip us) := fun _ _ _ _ _ _ us hl => match us, hl with | [_], _ => rfl
theorem bnd_read : ∀ (kV doc pm : Value) (an : Option Addr) (cdv ct : Value) (us : List Value), us.length = (["document", "some_bytes"] : List Str).length → bindArgs (PySem.W.fnOf "read" "read" (defArgs s_read) (defBody s_read) (defScope s_read) .none kV doc pm an cdv ct) ⟨us, []⟩ = pure ((["document", "some_bytes"] : List Str).zip us) := fun _ _ _ _ _ _ us hl => match us, hl with | [_, _], _ => rfl
theorem bnd_mend : ∀ (kV doc pm : Value) (an : Option Addr) (cdv ct : Value) (us : List Value), us.length = (["document", "some_bytes"] : List Str).length → bindArgs (PySem.W.fnOf "mend" "mend" (defArgs s_mend) (defBody s_mend) (defScope s_mend) .none kV doc pm an cdv ct) ⟨us, []⟩ = pure ((["document", "some_bytes"] : List Str).zip us) := fun _ _ _ _ _ _ us hl => match us, hl with | [_, _], _ => rfl
theorem bnd_how_it_stands : ∀ (kV doc pm : Value) (an : Option Addr) (cdv ct : Value) (us : List Value), us.length = (["document"] : List Str).length → bindArgs (PySem.W.fnOf "how_it_stands" "how_it_stands" (defArgs s_how_it_stands) (defBody s_how_it_stands) (defScope s_how_it_stands) .none kV doc pm an cdv ct) ⟨us, []⟩ = pure ((["document"] : List Str).zip us) := fun _ _ _ _ _ _ us hl => match us, hl with | [_], _ => rfl
theorem bnd_shows : ∀ (kV doc pm : Value) (an : Option Addr) (cdv ct : Value) (us : List Value), us.length = (["document"] : List Str).length → bindArgs (PySem.W.fnOf "shows" "shows" (defArgs s_shows) (defBody s_shows) (defScope s_shows) .none kV doc pm an cdv ct) ⟨us, []⟩ = pure ((["document"] : List Str).zip us) := fun _ _ _ _ _ _ us hl => match us, hl with | [_], _ => rfl
theorem bnd_look : ∀ (kV doc pm : Value) (an : Option Addr) (cdv ct : Value) (us : List Value), us.length = (["document", "i"] : List Str).length → bindArgs (PySem.W.fnOf "look" "look" (defArgs s_look) (defBody s_look) (defScope s_look) .none kV doc pm an cdv ct) ⟨us, []⟩ = pure ((["document", "i"] : List Str).zip us) := fun _ _ _ _ _ _ us hl => match us, hl with | [_, _], _ => rfl
theorem bnd_others : ∀ (kV doc pm : Value) (an : Option Addr) (cdv ct : Value) (us : List Value), us.length = (["document"] : List Str).length → bindArgs (PySem.W.fnOf "others" "others" (defArgs s_others) (defBody s_others) (defScope s_others) .none kV doc pm an cdv ct) ⟨us, []⟩ = pure ((["document"] : List Str).zip us) := fun _ _ _ _ _ _ us hl => match us, hl with | [_], _ => rfl
theorem bnd_short : ∀ (kV doc pm : Value) (an : Option Addr) (cdv ct : Value) (us : List Value), us.length = (["numbers"] : List Str).length → bindArgs (PySem.W.fnOf "short" "short" (defArgs s_short) (defBody s_short) (defScope s_short) .none kV doc pm an cdv ct) ⟨us, []⟩ = pure ((["numbers"] : List Str).zip us) := fun _ _ _ _ _ _ us hl => match us, hl with | [_], _ => rfl
theorem bnd_long : ∀ (kV doc pm : Value) (an : Option Addr) (cdv ct : Value) (us : List Value), us.length = (["n", "some_bytes"] : List Str).length → bindArgs (PySem.W.fnOf "long" "long" (defArgs s_long) (defBody s_long) (defScope s_long) .none kV doc pm an cdv ct) ⟨us, []⟩ = pure ((["n", "some_bytes"] : List Str).zip us) := fun _ _ _ _ _ _ us hl => match us, hl with | [_, _], _ => rfl
theorem bnd_answer : ∀ (kV doc pm : Value) (an : Option Addr) (cdv ct : Value) (us : List Value), us.length = (["document", "call", "whole", "row"] : List Str).length → bindArgs (PySem.W.fnOf "answer" "answer" (defArgs s_answer) (defBody s_answer) (defScope s_answer) .none kV doc pm an cdv ct) ⟨us, []⟩ = pure ((["document", "call", "whole", "row"] : List Str).zip us) := fun _ _ _ _ _ _ us hl => match us, hl with | [_, _, _, _], _ => rfl
theorem bnd_answers : ∀ (kV doc pm : Value) (an : Option Addr) (cdv ct : Value) (us : List Value), us.length = (["calls"] : List Str).length → bindArgs (PySem.W.fnOf "answers" "answers" (defArgs s_answers) (defBody s_answers) (defScope s_answers) .none kV doc pm an cdv ct) ⟨us, []⟩ = pure ((["calls"] : List Str).zip us) := fun _ _ _ _ _ _ us hl => match us, hl with | [_], _ => rfl
theorem bnd_Layer_init : ∀ (kV doc pm : Value) (an : Option Addr) (cdv ct : Value) (us : List Value), us.length = (["self", "name", "numbers"] : List Str).length → bindArgs (PySem.W.fnOf "__init__" "Layer.__init__" (defArgs s_Layer_init) (defBody s_Layer_init) (defScope s_Layer_init) .none kV doc pm an cdv ct) ⟨us, []⟩ = pure ((["self", "name", "numbers"] : List Str).zip us) := fun _ _ _ _ _ _ us hl => match us, hl with | [_, _, _], _ => rfl
theorem bnd_Document_init : ∀ (kV doc pm : Value) (an : Option Addr) (cdv ct : Value) (us : List Value), us.length = (["self", "columns", "rows"] : List Str).length → bindArgs (PySem.W.fnOf "__init__" "Document.__init__" (defArgs s_Document_init) (defBody s_Document_init) (defScope s_Document_init) .none kV doc pm an cdv ct) ⟨us, []⟩ = pure ((["self", "columns", "rows"] : List Str).zip us) := fun _ _ _ _ _ _ us hl => match us, hl with | [_, _, _], _ => rfl
theorem bnd_Document_become : ∀ (kV doc pm : Value) (an : Option Addr) (cdv ct : Value) (us : List Value), us.length = (["self", "another"] : List Str).length → bindArgs (PySem.W.fnOf "become" "Document.become" (defArgs s_Document_become) (defBody s_Document_become) (defScope s_Document_become) .none kV doc pm an cdv ct) ⟨us, []⟩ = pure ((["self", "another"] : List Str).zip us) := fun _ _ _ _ _ _ us hl => match us, hl with | [_, _], _ => rfl
theorem loc_mk {K : PySem.W.Frag} {h : Heap} {mg : Str → Option Value} {x : Str} {st : Stmt} {ps : List Str} {f : Addr} {od an : Option Addr} {sl : Array (Option Value)} {oc kV dc pm cd ct : Value} (X : K.In h) (G : h.Ns mainGlobals mg) (a : PySem.W.nsIn K mainGlobals x = some (some (.ref f)))
    (l : K.lookup f = some ⟨oc, od, .func (PySem.W.fnOf x x (defArgs st) (defBody st) (defScope st) .none kV dc pm an cd ct), sl⟩) (c : PySem.W.codeIn K cd x = true) (k : PySem.W.keepIn K (.ref f) = true)
    (b : ∀ (kV doc pm : Value) (an : Option Addr) (cdv ct : Value) (us : List Value), us.length = ps.length → bindArgs (PySem.W.fnOf x x (defArgs st) (defBody st) (defScope st) .none kV doc pm an cdv ct) ⟨us, []⟩ = pure (ps.zip us)) : Loc K mg x st ps :=
  ⟨f, _, fun_mk l c k, PySem.W.mg_of X G a, (fun_mk l c k).binds b⟩
theorem kint_mk {K : PySem.W.Frag} {h : Heap} {mg : Str → Option Value} {x : Str} {v : Int} {t : Tok} (X : K.In h) (G : h.Ns mainGlobals mg) (a : PySem.W.nsIn K mainGlobals x = some (some (.int v t))) : KInt mg x v := ⟨t, PySem.W.mg_of X G a⟩
theorem with_loc {Goal : Prop} {K : PySem.W.Frag} {h : Heap} {mg : Str → Option Value} {x : Str} {st : Stmt} {ps : List Str} {f : Addr} {od an : Option Addr} {sl : Array (Option Value)} {oc kV dc pm cd ct : Value} (X : K.In h) (G : h.Ns mainGlobals mg) (a : PySem.W.nsIn K mainGlobals x = some (some (.ref f)))
    (l : K.lookup f = some ⟨oc, od, .func (PySem.W.fnOf x x (defArgs st) (defBody st) (defScope st) .none kV dc pm an cd ct), sl⟩) (c : PySem.W.codeIn K cd x = true) (k : PySem.W.keepIn K (.ref f) = true)
    (b : ∀ (kV doc pm : Value) (an : Option Addr) (cdv ct : Value) (us : List Value), us.length = ps.length → bindArgs (PySem.W.fnOf x x (defArgs st) (defBody st) (defScope st) .none kV doc pm an cdv ct) ⟨us, []⟩ = pure (ps.zip us)) (g : Loc K mg x st ps → Goal) : Goal := g (loc_mk X G a l c k b)
theorem with_txt {Goal : Prop} {K : PySem.W.Frag} {h : Heap} {mg : Str → Option Value} (X : K.In h) (T : Txt K mg) (g : Txt K mg → Goal) : Goal := g T
structure ClsLoc (K : PySem.W.Frag) (mg : Str → Option Value) (x : Str) (C : Addr) (st : Stmt) (qual : Str) (ps : List Str) : Prop where
  cl : Cls K C
  g : mg x = some (.ref C)
  ex : ∃ (f : Addr) (fd : FuncData), Mk K C f ∧ Fun K "__init__" qual st f fd ∧ Binds K fd ps []
structure MethLoc (K : PySem.W.Frag) (m : Str) (C : Addr) (st : Stmt) (qual : Str) (ps : List Str) : Prop where
  ex : ∃ (f : Addr) (fd : FuncData), Meth K C m f ∧ Fun K m qual st f fd ∧ Binds K fd ps []
theorem with_class {Goal : Prop} {K : PySem.W.Frag} {h : Heap} {mg : Str → Option Value} {x qual : Str} {C f : Addr} {st : Stmt} {ps : List Str} {od an : Option Addr} {sl : Array (Option Value)} {oc kV dc pm cd ct : Value} (X : K.In h) (G : h.Ns mainGlobals mg) (aC : PySem.W.nsIn K mainGlobals x = some (some (.ref C)))
    (a1 : PySem.W.findIn K (.ref C) "__init__" = some (some (.ref f))) (i1 : PySem.W.isFn K (.ref f) = true) (l1 : K.lookup f = some ⟨oc, od, .func (PySem.W.fnOf "__init__" qual (defArgs st) (defBody st) (defScope st) .none kV dc pm an cd ct), sl⟩) (c1 : PySem.W.codeIn K cd qual = true) (k1 : PySem.W.keepIn K (.ref f) = true)
    (pg : PySem.W.plainGet K C Str.empty = true) (hd : PySem.W.hasDictIn K C = true) (po : PySem.W.plainOver K C = true) (sa : PySem.W.findIn K (.ref C) "__setattr__" = some (some (.builtin "object.__setattr__"))) (mk : PySem.W.makesIn K C = true) (kc : PySem.W.keepIn K (.ref C) = true)
    (b : ∀ (kV doc pm : Value) (an : Option Addr) (cdv ct : Value) (us : List Value), us.length = ps.length → bindArgs (PySem.W.fnOf "__init__" qual (defArgs st) (defBody st) (defScope st) .none kV doc pm an cdv ct) ⟨us, []⟩ = pure (ps.zip us)) (g : ClsLoc K mg x C st qual ps → Goal) : Goal :=
  g ⟨⟨pg, hd, po, sa⟩, PySem.W.mg_of X G aC, f, _, ⟨mk, a1, i1, kc⟩, fun_mk l1 c1 k1, (fun_mk l1 c1 k1).binds b⟩
theorem with_na {Goal : Prop} {K : PySem.W.Frag} {mg : Str → Option Value} {x qual : Str} {C : Addr} {st : Stmt} {ps : List Str} (L : ClsLoc K mg x C st qual ps) (f : Str) (n : PySem.W.findIn K (.ref C) f = some none) (g : NoAttr K C f → Goal) : Goal := g n
theorem with_meth {Goal : Prop} {K : PySem.W.Frag} {mg : Str → Option Value} {x qual0 qual : Str} {C f : Addr} {st0 st : Stmt} {ps0 ps : List Str} {od an : Option Addr} {sl : Array (Option Value)} {oc kV dc pm cd ct : Value} (L : ClsLoc K mg x C st0 qual0 ps0) (m : Str)
    (a1 : PySem.W.findIn K (.ref C) m = some (some (.ref f))) (i1 : PySem.W.isFn K (.ref f) = true) (l1 : K.lookup f = some ⟨oc, od, .func (PySem.W.fnOf m qual (defArgs st) (defBody st) (defScope st) .none kV dc pm an cd ct), sl⟩) (c1 : PySem.W.codeIn K cd qual = true) (k1 : PySem.W.keepIn K (.ref f) = true)
    (b : ∀ (kV doc pm : Value) (an : Option Addr) (cdv ct : Value) (us : List Value), us.length = ps.length → bindArgs (PySem.W.fnOf m qual (defArgs st) (defBody st) (defScope st) .none kV doc pm an cdv ct) ⟨us, []⟩ = pure (ps.zip us)) (g : MethLoc K m C st qual ps → Goal) : Goal :=
  g ⟨f, _, ⟨a1, i1, k1⟩, fun_mk l1 c1 k1, (fun_mk l1 c1 k1).binds b⟩
structure TupIs (K : PySem.W.Frag) (mg : Str → Option Value) (x : Str) (t : Addr) (xs : List V) : Prop where
  g : mg x = some (.ref t)
  q : ∀ H, SqT K H t xs
theorem with_tup {Goal : Prop} {K : PySem.W.Frag} {h : Heap} {mg : Str → Option Value} {x : Str} {xs : List V} {t : Addr} {od : Option Addr} {its : Array Value} {n : Nat} {sl : Array (Option Value)} (X : K.In h) (G : h.Ns mainGlobals mg) (a : PySem.W.nsIn K mainGlobals x = some (some (.ref t)))
    (l : K.lookup t = some ⟨.type "tuple", od, .seq its n, sl⟩) (s : its.size ≤ sizeLine) (v : Vals xs its.toList) (g : TupIs K mg x t xs → Goal) : Goal := g ⟨PySem.W.mg_of X G a, fun _ => .inr ⟨_, its, n, l, rfl, rfl, s, v⟩⟩
end Pf
namespace Pf
theorem ints_back {l : List Int} (h : ∀ z ∈ l, 0 ≤ z) : l = Ie11.ints (l.map Int.toNat) := by
  unfold Ie11.ints
  rw [List.map_map]
  have : l.map ((fun (n : Nat) => (n : Int)) ∘ Int.toNat) = l.map id := List.map_congr_left fun z hz => by
    have := h z hz
    show ((z.toNat : Nat) : Int) = z
    omega
  rw [this, List.map_id]
theorem inInt_lo {lo hi z : Int} (h : PySem.W.Codec.inInt lo hi z = true) : lo ≤ z := by
  unfold PySem.W.Codec.inInt at h
  simp only [Bool.and_eq_true, decide_eq_true_eq] at h
  exact h.1
end Pf
end
section
set_option Elab.async false
set_option linter.all false
set_option maxRecDepth 100000
set_option maxHeartbeats 4000000
namespace Pf
open PySem PySem.Spec PyProof.Rows L2
structure LocE (K : PySem.W.Frag) (mg : Str → Option Value) (x : Str) (st : Stmt) (ps : List Str) : Prop where
  ex : ∃ (f : Addr) (fd : FuncData), Fun K x x st f fd ∧ mg x = some (.ref f) ∧ ∀ us : List Value, us.length = ps.length → bindArgs fd ⟨us, []⟩ = pure (ps.zip us)
theorem with_locE {Goal : Prop} {K : PySem.W.Frag} {h : Heap} {mg : Str → Option Value} {x : Str} {st : Stmt} {ps : List Str} {f : Addr} {od an : Option Addr} {sl : Array (Option Value)} {oc kV dc pm cd ct : Value} (X : K.In h) (G : h.Ns mainGlobals mg) (a : PySem.W.nsIn K mainGlobals x = some (some (.ref f)))
    (l : K.lookup f = some ⟨oc, od, .func (PySem.W.fnOf x x (defArgs st) (defBody st) (defScope st) .none kV dc pm an cd ct), sl⟩) (c : PySem.W.codeIn K cd x = true) (k : PySem.W.keepIn K (.ref f) = true)
    (b : ∀ (kV doc pm : Value) (an : Option Addr) (cdv ct : Value) (us : List Value), us.length = ps.length → bindArgs (PySem.W.fnOf x x (defArgs st) (defBody st) (defScope st) .none kV doc pm an cdv ct) ⟨us, []⟩ = pure (ps.zip us)) (g : LocE K mg x st ps → Goal) : Goal :=
  g ⟨f, _, fun_mk l c k, PySem.W.mg_of X G a, fun us hl => b _ _ _ _ _ _ us hl⟩
theorem end_ok {P : Program} {w : World} {K : PySem.W.Frag} {mg : Str → Option Value} {CL CD a_BEGINNING a_WHOLE_NUMBERS a_HAS_ROW fa : Addr} (T : Txt K mg)
    (K_Layer : ClsLoc K mg "Layer" CL s_Layer_init "Layer.__init__" ["self", "name", "numbers"]) (K_Document : ClsLoc K mg "Document" CD s_Document_init "Document.__init__" ["self", "columns", "rows"]) (J_become : MethLoc K "become" CD s_Document_become "Document.become" ["self", "another"])
    (O : Obs K CL CD) (U : Tups K mg a_BEGINNING) (U2 : Tabs K mg a_WHOLE_NUMBERS a_HAS_ROW)
    (L_is_page : Loc K mg "is_page" s_is_page ["columns", "rows"])
    (L_are_bytes : Loc K mg "are_bytes" s_are_bytes ["numbers"])
    (L_byte_sum : Loc K mg "byte_sum" s_byte_sum ["some_bytes"])
    (L_two_bytes : Loc K mg "two_bytes" s_two_bytes ["number"])
    (L_written_part : Loc K mg "written_part" s_written_part ["kind", "body"])
    (L_whole_part : Loc K mg "whole_part" s_whole_part ["some_bytes", "at"])
    (L_alike_from : Loc K mg "alike_from" s_alike_from ["numbers", "at"])
    (L_begins_alike : Loc K mg "begins_alike" s_begins_alike ["numbers", "at"])
    (L_unlike_from : Loc K mg "unlike_from" s_unlike_from ["numbers", "at"])
    (L_in_short : Loc K mg "in_short" s_in_short ["numbers"])
    (L_read_stretch : Loc K mg "read_stretch" s_read_stretch ["some_bytes", "at"])
    (L_read_short : Loc K mg "read_short" s_read_short ["some_bytes", "at", "wanted"])
    (L_whole_short : Loc K mg "whole_short" s_whole_short ["some_bytes", "wanted"])
    (L_less : Loc K mg "less" s_less ["row", "others"])
    (L_written_row : Loc K mg "written_row" s_written_row ["row", "above"])
    (L_written_rows : Loc K mg "written_rows" s_written_rows ["numbers", "columns"])
    (L_added_up : Loc K mg "added_up" s_added_up ["told"])
    (L_untold : Loc K mg "untold" s_untold ["way", "told", "above"])
    (L_read_rows : Loc K mg "read_rows" s_read_rows ["body", "at", "columns", "rows"])
    (L_layer_body : Loc K mg "layer_body" s_layer_body ["layer", "columns"])
    (L_written_file : Loc K mg "written_file" s_written_file ["document"])
    (L_layer_of : Loc K mg "layer_of" s_layer_of ["body", "columns", "rows"])
    (L_page_of : Loc K mg "page_of" s_page_of ["body"])
    (L_take_page : Loc K mg "take_page" s_take_page ["document", "body"])
    (L_take_layer : Loc K mg "take_layer" s_take_layer ["document", "body"])
    (L_take_other : Loc K mg "take_other" s_take_other ["document", "kind", "body"])
    (L_take_end : Loc K mg "take_end" s_take_end ["body", "left"])
    (L_take_part : Loc K mg "take_part" s_take_part ["document", "kind", "body", "left"])
    (L_behind_beginning : Loc K mg "behind_beginning" s_behind_beginning ["some_bytes"])
    (L_read_file : Loc K mg "read_file" s_read_file ["some_bytes"])
    (L_saved_parts : Loc K mg "saved_parts" s_saved_parts ["some_bytes"])
    (L_saved_page : Loc K mg "saved_page" s_saved_page ["parts"])
    (L_mended : Loc K mg "mended" s_mended ["some_bytes"])
    (L_page : Loc K mg "page" s_page ["document", "columns", "rows"])
    (L_layer : Loc K mg "layer" s_layer ["document", "name"])
    (L_cells : Loc K mg "cells" s_cells ["document", "i", "numbers"])
    (L_other : Loc K mg "other" s_other ["document", "kind", "some_bytes"])
    (L_drop : Loc K mg "drop" s_drop ["document", "i"])
    (L_write : Loc K mg "write" s_write ["document"])
    (L_read : Loc K mg "read" s_read ["document", "some_bytes"])
    (L_mend : Loc K mg "mend" s_mend ["document", "some_bytes"])
    (L_how_it_stands : Loc K mg "how_it_stands" s_how_it_stands ["document"])
    (L_shows : Loc K mg "shows" s_shows ["document"])
    (L_look : Loc K mg "look" s_look ["document", "i"])
    (L_others : Loc K mg "others" s_others ["document"])
    (L_short : Loc K mg "short" s_short ["numbers"])
    (L_long : Loc K mg "long" s_long ["n", "some_bytes"])
    (L_answer : Loc K mg "answer" s_answer ["document", "call", "whole", "row"])
    (L_answers : LocE K mg "answers" s_answers ["calls"])
    (hmg : mg "answers" = some (.ref fa)) : ∃ fd : FuncData, (∀ (s : Shared) (us : List Value), us.length = (["calls"] : List Str).length → BindsTo s fd ⟨us, []⟩ ((["calls"] : List Str).zip us)) ∧
        ∀ base : Heap, K.In base → base.Ns mainGlobals mg → FnOk P w K mg base CX0 11 fa fd ["calls"] (spAnswers K) := by
  obtain ⟨f, fd, F, hf, hb⟩ := L_answers.ex
  have e : f = fa := by
    have := hf.symm.trans hmg
    injection this with this
    injection this
  subst e
  refine ⟨fd, fun s us hl => BindsTo.of_eq (hb us hl), fun base _ _ => ?_⟩
  have M_Layer : Maker P w K mg base 1 "Layer" CL ["self", "name", "numbers"] (spLayInit CL) := by
    obtain ⟨f, fd, h1, h2, h3⟩ := K_Layer.ex
    exact ⟨f, fd, h1, ok_Layer_init O h2, K_Layer.g, h3⟩
  have M_Document : Maker P w K mg base 1 "Document" CD ["self", "columns", "rows"] (spDocInit CD) := by
    obtain ⟨f, fd, h1, h2, h3⟩ := K_Document.ex
    exact ⟨f, fd, h1, ok_Document_init O h2, K_Document.g, h3⟩
  have M_become : Method P w K mg base 1 "become" CD ["self", "another"] (spBecome CD) := by
    obtain ⟨f, fd, h1, h2, h3⟩ := J_become.ex
    exact ⟨O.clD, f, fd, h1, ok_Document_become O h2, h3⟩
  have C_is_page : Callee P w K mg base 1 "is_page" ["columns", "rows"] (spIsPage) := L_is_page.callee fun f fd F => ok_is_page T F
  have C_are_bytes : Callee P w K mg base 1 "are_bytes" ["numbers"] (spAreBytes) := L_are_bytes.callee fun f fd F => ok_are_bytes T F
  have C_byte_sum : Callee P w K mg base 1 "byte_sum" ["some_bytes"] (spSum) := L_byte_sum.callee fun f fd F => ok_byte_sum T F
  have C_two_bytes : Callee P w K mg base 1 "two_bytes" ["number"] (spTwo) := L_two_bytes.callee fun f fd F => ok_two_bytes T F
  have C_written_part : Callee P w K mg base 2 "written_part" ["kind", "body"] (spPart) := L_written_part.callee fun f fd F => ok_written_part T C_two_bytes C_byte_sum F
  have C_whole_part : Callee P w K mg base 2 "whole_part" ["some_bytes", "at"] (spWhole) := L_whole_part.callee fun f fd F => ok_whole_part T C_two_bytes C_byte_sum F
  have C_alike_from : Callee P w K mg base 1 "alike_from" ["numbers", "at"] (spAlike) := L_alike_from.callee fun f fd F => ok_alike_from T F
  have C_begins_alike : Callee P w K mg base 2 "begins_alike" ["numbers", "at"] (spBegins) := L_begins_alike.callee fun f fd F => ok_begins_alike T C_alike_from F
  have C_unlike_from : Callee P w K mg base 3 "unlike_from" ["numbers", "at"] (spUnlike) := L_unlike_from.callee fun f fd F => ok_unlike_from T C_begins_alike F
  have C_in_short : Callee P w K mg base 4 "in_short" ["numbers"] (spInShort) := L_in_short.callee fun f fd F => ok_in_short T C_alike_from C_unlike_from F
  have C_read_stretch : Callee P w K mg base 1 "read_stretch" ["some_bytes", "at"] (spStretch) := L_read_stretch.callee fun f fd F => ok_read_stretch T F
  have C_read_short : Callee P w K mg base 2 "read_short" ["some_bytes", "at", "wanted"] (spReadShort) := L_read_short.callee fun f fd F => ok_read_short T C_read_stretch F
  have C_whole_short : Callee P w K mg base 3 "whole_short" ["some_bytes", "wanted"] (spWholeShort) := L_whole_short.callee fun f fd F => ok_whole_short T C_read_short F
  have C_less : Callee P w K mg base 1 "less" ["row", "others"] (spLess) := L_less.callee fun f fd F => ok_less T F
  have C_written_row : Callee P w K mg base 5 "written_row" ["row", "above"] (spWrittenRow) := L_written_row.callee fun f fd F => ok_written_row T C_in_short C_less F
  have C_written_rows : Callee P w K mg base 6 "written_rows" ["numbers", "columns"] (spWrittenRows) := L_written_rows.callee fun f fd F => ok_written_rows T C_written_row F
  have C_added_up : Callee P w K mg base 1 "added_up" ["told"] (spAdded) := L_added_up.callee fun f fd F => ok_added_up T F
  have C_untold : Callee P w K mg base 2 "untold" ["way", "told", "above"] (spUntold) := L_untold.callee fun f fd F => ok_untold T C_added_up F
  have C_read_rows : Callee P w K mg base 3 "read_rows" ["body", "at", "columns", "rows"] (spReadRows) := L_read_rows.callee fun f fd F => ok_read_rows T C_read_short C_untold F
  have C_layer_body : Callee P w K mg base 7 "layer_body" ["layer", "columns"] (spLayBody CL) := L_layer_body.callee fun f fd F => ok_layer_body T O C_written_rows F
  have C_written_file : Callee P w K mg base 8 "written_file" ["document"] (spWriteFile CL CD) := L_written_file.callee fun f fd F => ok_written_file T O U C_written_part C_layer_body F
  have C_layer_of : Callee P w K mg base 4 "layer_of" ["body", "columns", "rows"] (spLayerOf CL) := L_layer_of.callee fun f fd F => ok_layer_of T O C_read_rows M_Layer F
  have C_page_of : Callee P w K mg base 3 "page_of" ["body"] (spPageOf CL CD) := L_page_of.callee fun f fd F => ok_page_of T C_is_page M_Document F
  have C_take_page : Callee P w K mg base 4 "take_page" ["document", "body"] (spTakePage CL CD) := L_take_page.callee fun f fd F => ok_take_page T O C_page_of M_become F
  have C_take_layer : Callee P w K mg base 5 "take_layer" ["document", "body"] (spTakeLayer CL CD) := L_take_layer.callee fun f fd F => ok_take_layer T O C_layer_of F
  have C_take_other : Callee P w K mg base 1 "take_other" ["document", "kind", "body"] (spTakeOther CL CD) := L_take_other.callee fun f fd F => ok_take_other T O F
  have C_take_end : Callee P w K mg base 1 "take_end" ["body", "left"] (spTakeEnd) := L_take_end.callee fun f fd F => ok_take_end T F
  have C_take_part : Callee P w K mg base 6 "take_part" ["document", "kind", "body", "left"] (spTakePart CL CD) := L_take_part.callee fun f fd F => ok_take_part T C_take_page C_take_end C_take_layer C_take_other F
  have C_behind_beginning : Callee P w K mg base 1 "behind_beginning" ["some_bytes"] (spBehind) := L_behind_beginning.callee fun f fd F => ok_behind_beginning T U F
  have C_read_file : Callee P w K mg base 7 "read_file" ["some_bytes"] (spReadFile CL CD) := L_read_file.callee fun f fd F => ok_read_file T O U M_Document C_behind_beginning C_whole_part C_take_part F
  have C_saved_parts : Callee P w K mg base 3 "saved_parts" ["some_bytes"] (spSavedParts) := L_saved_parts.callee fun f fd F => ok_saved_parts T C_behind_beginning C_whole_part F
  have C_saved_page : Callee P w K mg base 4 "saved_page" ["parts"] (spSavedPage CL CD) := L_saved_page.callee fun f fd F => ok_saved_page T C_page_of F
  have C_mended : Callee P w K mg base 6 "mended" ["some_bytes"] (spMended CL CD) := L_mended.callee fun f fd F => ok_mended T C_saved_parts C_saved_page C_take_layer C_take_other F
  have C_page : Callee P w K mg base 3 "page" ["document", "columns", "rows"] (spPage CL CD) := L_page.callee fun f fd F => ok_page T O C_is_page M_Document M_become F
  have C_layer : Callee P w K mg base 3 "layer" ["document", "name"] (spLayer CL CD) := L_layer.callee fun f fd F => ok_layer T O C_are_bytes M_Layer F
  have C_cells : Callee P w K mg base 7 "cells" ["document", "i", "numbers"] (spCells CL CD) := L_cells.callee fun f fd F => ok_cells T O C_are_bytes C_written_rows F
  have C_other : Callee P w K mg base 2 "other" ["document", "kind", "some_bytes"] (spOther CL CD) := L_other.callee fun f fd F => ok_other T O C_are_bytes F
  have C_drop : Callee P w K mg base 1 "drop" ["document", "i"] (spDrop CL CD) := L_drop.callee fun f fd F => ok_drop T O F
  have C_write : Callee P w K mg base 9 "write" ["document"] (spWrite CL CD) := L_write.callee fun f fd F => ok_write T C_written_file F
  have C_how_it_stands : Callee P w K mg base 1 "how_it_stands" ["document"] (spStands CL CD) := L_how_it_stands.callee fun f fd F => ok_how_it_stands T O F
  have C_read : Callee P w K mg base 8 "read" ["document", "some_bytes"] (spRead CL CD) := L_read.callee fun f fd F => ok_read T O C_are_bytes C_read_file M_become C_how_it_stands F
  have C_mend : Callee P w K mg base 7 "mend" ["document", "some_bytes"] (spMend CL CD) := L_mend.callee fun f fd F => ok_mend T O C_are_bytes C_mended M_become C_how_it_stands F
  have C_shows : Callee P w K mg base 2 "shows" ["document"] (spShows CL CD) := L_shows.callee fun f fd F => ok_shows T O C_how_it_stands F
  have C_look : Callee P w K mg base 1 "look" ["document", "i"] (spLook CL CD) := L_look.callee fun f fd F => ok_look T O F
  have C_others : Callee P w K mg base 1 "others" ["document"] (spOthers CL CD) := L_others.callee fun f fd F => ok_others T O F
  have C_short : Callee P w K mg base 5 "short" ["numbers"] (spShort CL CD) := L_short.callee fun f fd F => ok_short T C_are_bytes C_in_short F
  have C_long : Callee P w K mg base 4 "long" ["n", "some_bytes"] (spLong CL CD) := L_long.callee fun f fd F => ok_long T C_are_bytes C_whole_short F
  have C_answer : Callee P w K mg base 10 "answer" ["document", "call", "whole", "row"] (spAnswer CL CD) := L_answer.callee fun f fd F => ok_answer T C_page C_layer C_cells C_other C_drop C_write C_read C_mend C_shows C_look C_others C_short C_long F
  exact ok_answers T O U2 M_Document C_answer F
end Pf
end
section
set_option Elab.async false
set_option linter.all false
set_option maxRecDepth 100000
set_option maxHeartbeats 0
open PySem PySem.W PyProof.Rows
theorem PySem.Challenge.cw_picturefile_s01_answers_holds : PySem.Challenge.rw_picturefile_s01_answers.Holds := by
  w_on; k_headS; (case hw => exact ⟨[.list [.int 0, .int 1, .int 1]], by decide +kernel, by decide +kernel⟩)
  k_fillS
  refine L2.walk_specK (r := PySem.Challenge.rw_picturefile_s01_answers) (k := 11) (CX := L2.CX0) (ps := ["calls"]) (sp := Pf.spAnswers) (by decide +kernel) rfl rfl ⟨rfl, by decide, by decide⟩ (fun w h Y => PySem.W.kIn_of Y) ?F ?S (fun _ _ _ _ z => z)
  case F =>
    intro w mg fa h Y KX G hmg
    refine' Pf.with_loc (x := "is_page") (st := Pf.s_is_page) (ps := ["columns", "rows"]) KX G ?a ?l ?c ?k Pf.bnd_is_page (fun L_is_page => ?_)
    (case a => k_is); (case l => k_is); (case c => k_is); (case k => k_is)
    refine' Pf.with_loc (x := "are_bytes") (st := Pf.s_are_bytes) (ps := ["numbers"]) KX G ?a ?l ?c ?k Pf.bnd_are_bytes (fun L_are_bytes => ?_)
    (case a => k_is); (case l => k_is); (case c => k_is); (case k => k_is)
    refine' Pf.with_loc (x := "byte_sum") (st := Pf.s_byte_sum) (ps := ["some_bytes"]) KX G ?a ?l ?c ?k Pf.bnd_byte_sum (fun L_byte_sum => ?_)
    (case a => k_is); (case l => k_is); (case c => k_is); (case k => k_is)
    refine' Pf.with_loc (x := "two_bytes") (st := Pf.s_two_bytes) (ps := ["number"]) KX G ?a ?l ?c ?k Pf.bnd_two_bytes (fun L_two_bytes => ?_)
    (case a => k_is); (case l => k_is); (case c => k_is); (case k => k_is)
    refine' Pf.with_loc (x := "written_part") (st := Pf.s_written_part) (ps := ["kind", "body"]) KX G ?a ?l ?c ?k Pf.bnd_written_part (fun L_written_part => ?_)
    (case a => k_is); (case l => k_is); (case c => k_is); (case k => k_is)
    refine' Pf.with_loc (x := "whole_part") (st := Pf.s_whole_part) (ps := ["some_bytes", "at"]) KX G ?a ?l ?c ?k Pf.bnd_whole_part (fun L_whole_part => ?_)
    (case a => k_is); (case l => k_is); (case c => k_is); (case k => k_is)
    refine' Pf.with_loc (x := "alike_from") (st := Pf.s_alike_from) (ps := ["numbers", "at"]) KX G ?a ?l ?c ?k Pf.bnd_alike_from (fun L_alike_from => ?_)
    (case a => k_is); (case l => k_is); (case c => k_is); (case k => k_is)
    refine' Pf.with_loc (x := "begins_alike") (st := Pf.s_begins_alike) (ps := ["numbers", "at"]) KX G ?a ?l ?c ?k Pf.bnd_begins_alike (fun L_begins_alike => ?_)
    (case a => k_is); (case l => k_is); (case c => k_is); (case k => k_is)
    refine' Pf.with_loc (x := "unlike_from") (st := Pf.s_unlike_from) (ps := ["numbers", "at"]) KX G ?a ?l ?c ?k Pf.bnd_unlike_from (fun L_unlike_from => ?_)
    (case a => k_is); (case l => k_is); (case c => k_is); (case k => k_is)
    refine' Pf.with_loc (x := "in_short") (st := Pf.s_in_short) (ps := ["numbers"]) KX G ?a ?l ?c ?k Pf.bnd_in_short (fun L_in_short => ?_)
    (case a => k_is); (case l => k_is); (case c => k_is); (case k => k_is)
    refine' Pf.with_loc (x := "read_stretch") (st := Pf.s_read_stretch) (ps := ["some_bytes", "at"]) KX G ?a ?l ?c ?k Pf.bnd_read_stretch (fun L_read_stretch => ?_)
    (case a => k_is); (case l => k_is); (case c => k_is); (case k => k_is)
    refine' Pf.with_loc (x := "read_short") (st := Pf.s_read_short) (ps := ["some_bytes", "at", "wanted"]) KX G ?a ?l ?c ?k Pf.bnd_read_short (fun L_read_short => ?_)
    (case a => k_is); (case l => k_is); (case c => k_is); (case k => k_is)
    refine' Pf.with_loc (x := "whole_short") (st := Pf.s_whole_short) (ps := ["some_bytes", "wanted"]) KX G ?a ?l ?c ?k Pf.bnd_whole_short (fun L_whole_short => ?_)
    (case a => k_is); (case l => k_is); (case c => k_is); (case k => k_is)
    refine' Pf.with_loc (x := "less") (st := Pf.s_less) (ps := ["row", "others"]) KX G ?a ?l ?c ?k Pf.bnd_less (fun L_less => ?_)
    (case a => k_is); (case l => k_is); (case c => k_is); (case k => k_is)
    refine' Pf.with_loc (x := "written_row") (st := Pf.s_written_row) (ps := ["row", "above"]) KX G ?a ?l ?c ?k Pf.bnd_written_row (fun L_written_row => ?_)
    (case a => k_is); (case l => k_is); (case c => k_is); (case k => k_is)
    refine' Pf.with_loc (x := "written_rows") (st := Pf.s_written_rows) (ps := ["numbers", "columns"]) KX G ?a ?l ?c ?k Pf.bnd_written_rows (fun L_written_rows => ?_)
    (case a => k_is); (case l => k_is); (case c => k_is); (case k => k_is)
    refine' Pf.with_loc (x := "added_up") (st := Pf.s_added_up) (ps := ["told"]) KX G ?a ?l ?c ?k Pf.bnd_added_up (fun L_added_up => ?_)
    (case a => k_is); (case l => k_is); (case c => k_is); (case k => k_is)
    refine' Pf.with_loc (x := "untold") (st := Pf.s_untold) (ps := ["way", "told", "above"]) KX G ?a ?l ?c ?k Pf.bnd_untold (fun L_untold => ?_)
    (case a => k_is); (case l => k_is); (case c => k_is); (case k => k_is)
    refine' Pf.with_loc (x := "read_rows") (st := Pf.s_read_rows) (ps := ["body", "at", "columns", "rows"]) KX G ?a ?l ?c ?k Pf.bnd_read_rows (fun L_read_rows => ?_)
    (case a => k_is); (case l => k_is); (case c => k_is); (case k => k_is)
    refine' Pf.with_loc (x := "layer_body") (st := Pf.s_layer_body) (ps := ["layer", "columns"]) KX G ?a ?l ?c ?k Pf.bnd_layer_body (fun L_layer_body => ?_)
    (case a => k_is); (case l => k_is); (case c => k_is); (case k => k_is)
    refine' Pf.with_loc (x := "written_file") (st := Pf.s_written_file) (ps := ["document"]) KX G ?a ?l ?c ?k Pf.bnd_written_file (fun L_written_file => ?_)
    (case a => k_is); (case l => k_is); (case c => k_is); (case k => k_is)
    refine' Pf.with_loc (x := "layer_of") (st := Pf.s_layer_of) (ps := ["body", "columns", "rows"]) KX G ?a ?l ?c ?k Pf.bnd_layer_of (fun L_layer_of => ?_)
    (case a => k_is); (case l => k_is); (case c => k_is); (case k => k_is)
    refine' Pf.with_loc (x := "page_of") (st := Pf.s_page_of) (ps := ["body"]) KX G ?a ?l ?c ?k Pf.bnd_page_of (fun L_page_of => ?_)
    (case a => k_is); (case l => k_is); (case c => k_is); (case k => k_is)
    refine' Pf.with_loc (x := "take_page") (st := Pf.s_take_page) (ps := ["document", "body"]) KX G ?a ?l ?c ?k Pf.bnd_take_page (fun L_take_page => ?_)
    (case a => k_is); (case l => k_is); (case c => k_is); (case k => k_is)
    refine' Pf.with_loc (x := "take_layer") (st := Pf.s_take_layer) (ps := ["document", "body"]) KX G ?a ?l ?c ?k Pf.bnd_take_layer (fun L_take_layer => ?_)
    (case a => k_is); (case l => k_is); (case c => k_is); (case k => k_is)
    refine' Pf.with_loc (x := "take_other") (st := Pf.s_take_other) (ps := ["document", "kind", "body"]) KX G ?a ?l ?c ?k Pf.bnd_take_other (fun L_take_other => ?_)
    (case a => k_is); (case l => k_is); (case c => k_is); (case k => k_is)
    refine' Pf.with_loc (x := "take_end") (st := Pf.s_take_end) (ps := ["body", "left"]) KX G ?a ?l ?c ?k Pf.bnd_take_end (fun L_take_end => ?_)
    (case a => k_is); (case l => k_is); (case c => k_is); (case k => k_is)
    refine' Pf.with_loc (x := "take_part") (st := Pf.s_take_part) (ps := ["document", "kind", "body", "left"]) KX G ?a ?l ?c ?k Pf.bnd_take_part (fun L_take_part => ?_)
    (case a => k_is); (case l => k_is); (case c => k_is); (case k => k_is)
    refine' Pf.with_loc (x := "behind_beginning") (st := Pf.s_behind_beginning) (ps := ["some_bytes"]) KX G ?a ?l ?c ?k Pf.bnd_behind_beginning (fun L_behind_beginning => ?_)
    (case a => k_is); (case l => k_is); (case c => k_is); (case k => k_is)
    refine' Pf.with_loc (x := "read_file") (st := Pf.s_read_file) (ps := ["some_bytes"]) KX G ?a ?l ?c ?k Pf.bnd_read_file (fun L_read_file => ?_)
    (case a => k_is); (case l => k_is); (case c => k_is); (case k => k_is)
    refine' Pf.with_loc (x := "saved_parts") (st := Pf.s_saved_parts) (ps := ["some_bytes"]) KX G ?a ?l ?c ?k Pf.bnd_saved_parts (fun L_saved_parts => ?_)
    (case a => k_is); (case l => k_is); (case c => k_is); (case k => k_is)
    refine' Pf.with_loc (x := "saved_page") (st := Pf.s_saved_page) (ps := ["parts"]) KX G ?a ?l ?c ?k Pf.bnd_saved_page (fun L_saved_page => ?_)
    (case a => k_is); (case l => k_is); (case c => k_is); (case k => k_is)
    refine' Pf.with_loc (x := "mended") (st := Pf.s_mended) (ps := ["some_bytes"]) KX G ?a ?l ?c ?k Pf.bnd_mended (fun L_mended => ?_)
    (case a => k_is); (case l => k_is); (case c => k_is); (case k => k_is)
    refine' Pf.with_loc (x := "page") (st := Pf.s_page) (ps := ["document", "columns", "rows"]) KX G ?a ?l ?c ?k Pf.bnd_page (fun L_page => ?_)
    (case a => k_is); (case l => k_is); (case c => k_is); (case k => k_is)
    refine' Pf.with_loc (x := "layer") (st := Pf.s_layer) (ps := ["document", "name"]) KX G ?a ?l ?c ?k Pf.bnd_layer (fun L_layer => ?_)
    (case a => k_is); (case l => k_is); (case c => k_is); (case k => k_is)
    refine' Pf.with_loc (x := "cells") (st := Pf.s_cells) (ps := ["document", "i", "numbers"]) KX G ?a ?l ?c ?k Pf.bnd_cells (fun L_cells => ?_)
    (case a => k_is); (case l => k_is); (case c => k_is); (case k => k_is)
    refine' Pf.with_loc (x := "other") (st := Pf.s_other) (ps := ["document", "kind", "some_bytes"]) KX G ?a ?l ?c ?k Pf.bnd_other (fun L_other => ?_)
    (case a => k_is); (case l => k_is); (case c => k_is); (case k => k_is)
    refine' Pf.with_loc (x := "drop") (st := Pf.s_drop) (ps := ["document", "i"]) KX G ?a ?l ?c ?k Pf.bnd_drop (fun L_drop => ?_)
    (case a => k_is); (case l => k_is); (case c => k_is); (case k => k_is)
    refine' Pf.with_loc (x := "write") (st := Pf.s_write) (ps := ["document"]) KX G ?a ?l ?c ?k Pf.bnd_write (fun L_write => ?_)
    (case a => k_is); (case l => k_is); (case c => k_is); (case k => k_is)
    refine' Pf.with_loc (x := "read") (st := Pf.s_read) (ps := ["document", "some_bytes"]) KX G ?a ?l ?c ?k Pf.bnd_read (fun L_read => ?_)
    (case a => k_is); (case l => k_is); (case c => k_is); (case k => k_is)
    refine' Pf.with_loc (x := "mend") (st := Pf.s_mend) (ps := ["document", "some_bytes"]) KX G ?a ?l ?c ?k Pf.bnd_mend (fun L_mend => ?_)
    (case a => k_is); (case l => k_is); (case c => k_is); (case k => k_is)
    refine' Pf.with_loc (x := "how_it_stands") (st := Pf.s_how_it_stands) (ps := ["document"]) KX G ?a ?l ?c ?k Pf.bnd_how_it_stands (fun L_how_it_stands => ?_)
    (case a => k_is); (case l => k_is); (case c => k_is); (case k => k_is)
    refine' Pf.with_loc (x := "shows") (st := Pf.s_shows) (ps := ["document"]) KX G ?a ?l ?c ?k Pf.bnd_shows (fun L_shows => ?_)
    (case a => k_is); (case l => k_is); (case c => k_is); (case k => k_is)
    refine' Pf.with_loc (x := "look") (st := Pf.s_look) (ps := ["document", "i"]) KX G ?a ?l ?c ?k Pf.bnd_look (fun L_look => ?_)
    (case a => k_is); (case l => k_is); (case c => k_is); (case k => k_is)
    refine' Pf.with_loc (x := "others") (st := Pf.s_others) (ps := ["document"]) KX G ?a ?l ?c ?k Pf.bnd_others (fun L_others => ?_)
    (case a => k_is); (case l => k_is); (case c => k_is); (case k => k_is)
    refine' Pf.with_loc (x := "short") (st := Pf.s_short) (ps := ["numbers"]) KX G ?a ?l ?c ?k Pf.bnd_short (fun L_short => ?_)
    (case a => k_is); (case l => k_is); (case c => k_is); (case k => k_is)
    refine' Pf.with_loc (x := "long") (st := Pf.s_long) (ps := ["n", "some_bytes"]) KX G ?a ?l ?c ?k Pf.bnd_long (fun L_long => ?_)
    (case a => k_is); (case l => k_is); (case c => k_is); (case k => k_is)
    refine' Pf.with_loc (x := "answer") (st := Pf.s_answer) (ps := ["document", "call", "whole", "row"]) KX G ?a ?l ?c ?k Pf.bnd_answer (fun L_answer => ?_)
    (case a => k_is); (case l => k_is); (case c => k_is); (case k => k_is)
    refine' Pf.with_locE (x := "answers") (st := Pf.s_answers) (ps := ["calls"]) KX G ?a ?l ?c ?k Pf.bnd_answers (fun L_answers => ?_)
    (case a => k_is); (case l => k_is); (case c => k_is); (case k => k_is)
    refine' Pf.with_txt KX ⟨Pf.kint_mk KX G ?c0, Pf.kint_mk KX G ?c1, Pf.kint_mk KX G ?c2, Pf.kint_mk KX G ?c3, Pf.kint_mk KX G ?c4, Pf.kint_mk KX G ?c5, Pf.kint_mk KX G ?c6, Pf.kint_mk KX G ?c7, Pf.kint_mk KX G ?c8, Pf.kint_mk KX G ?c9, Pf.kint_mk KX G ?c10, Pf.kint_mk KX G ?c11, Pf.kint_mk KX G ?c12, Pf.kint_mk KX G ?c13, Pf.kint_mk KX G ?c14, Pf.kint_mk KX G ?c15, Pf.kint_mk KX G ?c16, Pf.kint_mk KX G ?c17, Pf.kint_mk KX G ?c18, Pf.kint_mk KX G ?c19, Pf.kint_mk KX G ?c20, Pf.kint_mk KX G ?c21, Pf.kint_mk KX G ?c22, Pf.kint_mk KX G ?c23, Pf.kint_mk KX G ?c24, Pf.kint_mk KX G ?c25, Pf.kint_mk KX G ?c26, Pf.kint_mk KX G ?c27, Pf.kint_mk KX G ?c28, Pf.kint_mk KX G ?c29, Pf.kint_mk KX G ?c30, Pf.kint_mk KX G ?c31, Pf.kint_mk KX G ?c32, Pf.kint_mk KX G ?c33, Pf.kint_mk KX G ?c34, Pf.kint_mk KX G ?c35, Pf.kint_mk KX G ?c36, Pf.kint_mk KX G ?c37, Pf.kint_mk KX G ?c38, Pf.kint_mk KX G ?c39, Pf.kint_mk KX G ?c40, Pf.kint_mk KX G ?c41, Pf.kint_mk KX G ?c42, Pf.kint_mk KX G ?c43, Pf.kint_mk KX G ?c44, Pf.kint_mk KX G ?c45, Pf.kint_mk KX G ?c46, Pf.kint_mk KX G ?c47, Pf.kint_mk KX G ?c48, Pf.kint_mk KX G ?c49, PySem.W.mg_none_of KX G ?b0, PySem.W.mg_none_of KX G ?b1, PySem.W.mg_none_of KX G ?b2, PySem.W.mg_none_of KX G ?b3, PySem.W.mg_none_of KX G ?b4, PySem.W.mg_none_of KX G ?b5, PySem.W.mg_none_of KX G ?b6, PySem.W.mg_none_of KX G ?b7⟩ (fun T => ?_)
    (case c0 => k_is)
    (case c1 => k_is)
    (case c2 => k_is)
    (case c3 => k_is)
    (case c4 => k_is)
    (case c5 => k_is)
    (case c6 => k_is)
    (case c7 => k_is)
    (case c8 => k_is)
    (case c9 => k_is)
    (case c10 => k_is)
    (case c11 => k_is)
    (case c12 => k_is)
    (case c13 => k_is)
    (case c14 => k_is)
    (case c15 => k_is)
    (case c16 => k_is)
    (case c17 => k_is)
    (case c18 => k_is)
    (case c19 => k_is)
    (case c20 => k_is)
    (case c21 => k_is)
    (case c22 => k_is)
    (case c23 => k_is)
    (case c24 => k_is)
    (case c25 => k_is)
    (case c26 => k_is)
    (case c27 => k_is)
    (case c28 => k_is)
    (case c29 => k_is)
    (case c30 => k_is)
    (case c31 => k_is)
    (case c32 => k_is)
    (case c33 => k_is)
    (case c34 => k_is)
    (case c35 => k_is)
    (case c36 => k_is)
    (case c37 => k_is)
    (case c38 => k_is)
    (case c39 => k_is)
    (case c40 => k_is)
    (case c41 => k_is)
    (case c42 => k_is)
    (case c43 => k_is)
    (case c44 => k_is)
    (case c45 => k_is)
    (case c46 => k_is)
    (case c47 => k_is)
    (case c48 => k_is)
    (case c49 => k_is)
    (case b0 => k_is)
    (case b1 => k_is)
    (case b2 => k_is)
    (case b3 => k_is)
    (case b4 => k_is)
    (case b5 => k_is)
    (case b6 => k_is)
    (case b7 => k_is)
    refine' Pf.with_class (x := "Layer") (st := Pf.s_Layer_init) (qual := "Layer.__init__") (ps := ["self", "name", "numbers"]) KX G ?aC ?a1 ?i1 ?l1 ?c1 ?k1 ?pg ?hd ?po ?sa ?mk ?kc Pf.bnd_Layer_init (fun K_Layer => ?_)
    (case aC => k_is); (case a1 => k_is); (case i1 => k_is); (case l1 => k_is); (case c1 => k_is); (case k1 => k_is); (case pg => k_is); (case hd => k_is); (case po => k_is); (case sa => k_is); (case mk => k_is); (case kc => k_is)
    refine' Pf.with_na K_Layer "name" ?n (fun n_Layer_name => ?_)
    (case n => k_is)
    refine' Pf.with_na K_Layer "numbers" ?n (fun n_Layer_numbers => ?_)
    (case n => k_is)
    refine' Pf.with_class (x := "Document") (st := Pf.s_Document_init) (qual := "Document.__init__") (ps := ["self", "columns", "rows"]) KX G ?aC ?a1 ?i1 ?l1 ?c1 ?k1 ?pg ?hd ?po ?sa ?mk ?kc Pf.bnd_Document_init (fun K_Document => ?_)
    (case aC => k_is); (case a1 => k_is); (case i1 => k_is); (case l1 => k_is); (case c1 => k_is); (case k1 => k_is); (case pg => k_is); (case hd => k_is); (case po => k_is); (case sa => k_is); (case mk => k_is); (case kc => k_is)
    refine' Pf.with_na K_Document "columns" ?n (fun n_Document_columns => ?_)
    (case n => k_is)
    refine' Pf.with_na K_Document "rows" ?n (fun n_Document_rows => ?_)
    (case n => k_is)
    refine' Pf.with_na K_Document "layers" ?n (fun n_Document_layers => ?_)
    (case n => k_is)
    refine' Pf.with_na K_Document "others" ?n (fun n_Document_others => ?_)
    (case n => k_is)
    refine' Pf.with_meth K_Document "become" (st := Pf.s_Document_become) (qual := "Document.become") (ps := ["self", "another"]) ?a1 ?i1 ?l1 ?c1 ?k1 Pf.bnd_Document_become (fun J_become => ?_)
    (case a1 => k_is); (case i1 => k_is); (case l1 => k_is); (case c1 => k_is); (case k1 => k_is)
    refine' Pf.with_tup (x := "BEGINNING") (xs := (Pf.nv [80, 73])) KX G ?a ?l ?s ?v (fun U_BEGINNING => ?_)
    (case a => k_is); (case l => k_is); (case s => exact (by decide)); (case v => exact .cons ⟨_, rfl⟩ (.cons ⟨_, rfl⟩ (.nil)))
    refine' Pf.with_tup (x := "WHOLE_NUMBERS") (xs := (Pf.nv [2, 0, 1, 1, 1, 0, 0, 0, 0, 1, 0, 0, 1])) KX G ?a ?l ?s ?v (fun U_WHOLE_NUMBERS => ?_)
    (case a => k_is); (case l => k_is); (case s => exact (by decide)); (case v => exact .cons ⟨_, rfl⟩ (.cons ⟨_, rfl⟩ (.cons ⟨_, rfl⟩ (.cons ⟨_, rfl⟩ (.cons ⟨_, rfl⟩ (.cons ⟨_, rfl⟩ (.cons ⟨_, rfl⟩ (.cons ⟨_, rfl⟩ (.cons ⟨_, rfl⟩ (.cons ⟨_, rfl⟩ (.cons ⟨_, rfl⟩ (.cons ⟨_, rfl⟩ (.cons ⟨_, rfl⟩ (.nil))))))))))))))
    refine' Pf.with_tup (x := "HAS_ROW") (xs := ([false, true, true, true, false, false, true, true, false, false, false, true, true].map L2.V.bl)) KX G ?a ?l ?s ?v (fun U_HAS_ROW => ?_)
    (case a => k_is); (case l => k_is); (case s => exact (by decide)); (case v => exact .cons rfl (.cons rfl (.cons rfl (.cons rfl (.cons rfl (.cons rfl (.cons rfl (.cons rfl (.cons rfl (.cons rfl (.cons rfl (.cons rfl (.cons rfl (.nil))))))))))))))
    exact Pf.end_ok T K_Layer K_Document J_become ⟨K_Layer.cl, K_Document.cl, n_Layer_name, n_Layer_numbers, n_Document_columns, n_Document_rows, n_Document_layers, n_Document_others⟩ ⟨U_BEGINNING.g, U_BEGINNING.q⟩ ⟨U_WHOLE_NUMBERS.g, U_WHOLE_NUMBERS.q, U_HAS_ROW.g, U_HAS_ROW.q⟩ L_is_page L_are_bytes L_byte_sum L_two_bytes L_written_part L_whole_part L_alike_from L_begins_alike L_unlike_from L_in_short L_read_stretch L_read_short L_whole_short L_less L_written_row L_written_rows L_added_up L_untold L_read_rows L_layer_body L_written_file L_layer_of L_page_of L_take_page L_take_layer L_take_other L_take_end L_take_part L_behind_beginning L_read_file L_saved_parts L_saved_page L_mended L_page L_layer L_cells L_other L_drop L_write L_read L_mend L_how_it_stands L_shows L_look L_others L_short L_long L_answer L_answers hmg
  case S =>
    intro K H xs a hO hwi hask hx
    cases hx with
    | cons h1 h2 =>
      cases h2
      cases h1 with
      | lst hs ha =>
        have e := L2.ints_dw a.1 _ ha
        subst e
        have q : ((Codec.inLen 0 30000 a.1 && a.1.all (Codec.inInt 0 4294967295)) && true) = true := hwi
        rw [Bool.and_eq_true, Bool.and_eq_true] at q
        have e2 : a.1 = Ie11.ints (a.1.map Int.toNat) := Pf.ints_back fun z hz => by
          have := List.all_eq_true.mp q.1.2 z hz
          exact (Pf.inInt_lo this)
        refine ⟨_, a.1.map Int.toNat, rfl, ?_, ?_, ?_, fun H' p hp => .lst (L2.SqL.of (xs := Pf.iv (PyIe11.answers a.1)) ?_) (L2.dw_ints _)⟩
        · rw [← Pf.iv_ints, ← e2]
          exact hs
        · rw [List.length_map]
          exact (Codec.inNat_iff.mp q.1.1).2
        · rw [← e2]
          exact hask
        · rw [← e2] at hp
          exact hp
end

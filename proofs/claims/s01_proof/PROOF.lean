import PyProof.Rows.All
import Wide.All
import OpenK.AllK
import Wide.FinOn
import PyProof.EqAt
import PyProof.EqKinds
import PyProof.TupleCall
import Open.SpecLaws
import KE.OsGo
import HandS.ForSpec
import HandS.ForMost
import HandS.Deep
import HandS.SortKw
import HandS.Walk
import PySem.Challenge.RW_foldview_s01_answers
set_option Elab.async false
set_option linter.all false
set_option maxRecDepth 100000
set_option maxHeartbeats 4000000
/-! ### The mathematics: columns, rows -/
namespace FV
open Ue07
theorem tab_up {t c : Nat} (h : 1 ≤ t) : (c / t + 1) * t = c + (t - c % t) := by
  have h1 := Nat.div_add_mod c t
  have h2 := Nat.mod_lt c (show 0 < t by omega)
  have h3 : (c / t + 1) * t = t * (c / t) + t := by rw [Nat.add_mul, Nat.one_mul, Nat.mul_comm]
  omega
theorem cost_pos {k : Look} (h : 1 ≤ k.tab) (c b : Nat) : 1 ≤ cost k c b := by
  unfold cost
  have h2 := Nat.mod_lt c (show 0 < k.tab by omega)
  split
  · omega
  · split <;> omega
/-- the loop of fitting_end: how many bytes it goes on -/
def fitL (k : Look) : Bool → Nat → Bytes → Nat
  | _, _, [] => 0
  | first, c, b :: w => if k.wide < c + cost k c b ∧ first = false then 0 else fitL k false (c + cost k c b) w + 1
theorem fitL_false (k : Look) : ∀ (w : Bytes) (c : Nat), fitL k false c w = fits k c w
  | [], c => rfl
  | b :: w, c => by
    show (if k.wide < c + cost k c b ∧ false = false then 0 else fitL k false (c + cost k c b) w + 1) = (if k.wide < c + cost k c b then 0 else fits k (c + cost k c b) w + 1)
    rw [fitL_false k w]
    by_cases h : k.wide < c + cost k c b
    · rw [if_pos h, if_pos ⟨h, rfl⟩]
    · rw [if_neg h, if_neg (fun z => h z.1)]
theorem fits_over {k : Look} (ht : 1 ≤ k.tab) {c : Nat} (h : k.wide < c) : ∀ w : Bytes, fits k c w = 0
  | [] => rfl
  | b :: w => by
    have := cost_pos ht c b
    show (if k.wide < c + cost k c b then 0 else fits k (c + cost k c b) w + 1) = 0
    rw [if_pos (by omega)]
theorem fits_le (k : Look) : ∀ (w : Bytes) (c : Nat), fits k c w ≤ w.length
  | [], c => Nat.le_refl _
  | b :: w, c => by
    show (if k.wide < c + cost k c b then 0 else fits k (c + cost k c b) w + 1) ≤ w.length + 1
    have := fits_le k w (c + cost k c b)
    split <;> omega
theorem fitL_true {k : Look} (ht : 1 ≤ k.tab) (c b : Nat) (w : Bytes) : fitL k true c (b :: w) = max 1 (fits k c (b :: w)) := by
  show (if k.wide < c + cost k c b ∧ true = false then 0 else fitL k false (c + cost k c b) w + 1) = max 1 (if k.wide < c + cost k c b then 0 else fits k (c + cost k c b) w + 1)
  rw [if_neg (fun z => by cases z.2), fitL_false]
  by_cases h : k.wide < c + cost k c b
  · rw [if_pos h, fits_over ht h]
    rfl
  · rw [if_neg h]
    omega
theorem fitL_le (k : Look) : ∀ (w : Bytes) (f : Bool) (c : Nat), fitL k f c w ≤ w.length
  | [], f, c => Nat.le_refl _
  | b :: w, f, c => by
    show (if k.wide < c + cost k c b ∧ f = false then 0 else fitL k false (c + cost k c b) w + 1) ≤ w.length + 1
    have := fitL_le k w false (c + cost k c b)
    split <;> omega
/-- how many of some bytes are left up to behind the last blank -/
def lastB (w : Bytes) : Nat := (w.reverse.dropWhile fun b => !isBlank b).length
theorem lastB_le (w : Bytes) : lastB w ≤ w.length := by
  unfold lastB
  have := (List.dropWhile_sublist (p := fun b => !isBlank b) (l := w.reverse)).length_le
  rwa [List.length_reverse] at this
theorem lastB_nil : lastB [] = 0 := rfl
theorem lastB_yes {w : Bytes} {x : Nat} (h : isBlank x = true) : lastB (w ++ [x]) = w.length + 1 := by
  unfold lastB
  rw [List.reverse_append, List.reverse_singleton, List.singleton_append, List.dropWhile_cons_of_neg (by simp [h])]
  simp
theorem lastB_no {w : Bytes} {x : Nat} (h : isBlank x = false) : lastB (w ++ [x]) = lastB w := by
  unfold lastB
  rw [List.reverse_append, List.reverse_singleton, List.singleton_append, List.dropWhile_cons_of_pos (by simp [h])]
/-- blanks ahead -/
def blanksN (w : Bytes) : Nat := (w.takeWhile isBlank).length
theorem blanksN_le (w : Bytes) : blanksN w ≤ w.length := (List.takeWhile_sublist _).length_le
theorem blanksN_cons (x : Nat) (w : Bytes) : blanksN (x :: w) = if isBlank x = true then blanksN w + 1 else 0 := by
  unfold blanksN
  cases h : isBlank x with
  | true => rw [List.takeWhile_cons_of_pos h]; rfl
  | false => rw [List.takeWhile_cons_of_neg (by simp [h])]; rfl
theorem take_blanksN (w : Bytes) : w.take (blanksN w) = w.takeWhile isBlank := by
  induction w with
  | nil => rfl
  | cons x w ih =>
    rw [blanksN_cons]
    cases h : isBlank x with
    | true => rw [if_pos rfl, List.takeWhile_cons_of_pos h, List.take_succ_cons, ih]
    | false => rw [if_neg (by decide), List.takeWhile_cons_of_neg (by simp [h])]; rfl
/-- row_end's way -/
def rowEnd (k : Look) (c : Nat) (w : Bytes) : Nat :=
  let m := fitL k true c w
  if m = w.length ∨ k.words = false then m else
  let h := blanksN (w.drop m)
  if 0 < h then m + h else
  let a := lastB (w.take m)
  if 0 < a then a else m
theorem rowEnd_eq {k : Look} (ht : 1 ≤ k.tab) (c : Nat) (w : Bytes) : rowEnd k c w = rowLength k c w := by
  cases w with
  | nil =>
    unfold rowEnd rowLength
    simp [fitL]
  | cons b w =>
    have hm := fitL_true ht c b w
    have hl := fitL_le k (b :: w) true c
    unfold rowEnd rowLength
    simp only [hm] at hl ⊢
    generalize hn : max 1 (fits k c (b :: w)) = n at hl ⊢
    by_cases h1 : n = (b :: w).length
    · rw [if_pos (Or.inl h1), if_pos (by omega)]
      exact h1
    · rw [if_neg (show ¬ (b :: w).length ≤ n by omega)]
      by_cases h2 : k.words = false
      · rw [if_pos (Or.inr h2), if_pos h2]
      · rw [if_neg (fun z => z.elim h1 h2), if_neg h2]
        have hlt : n < (b :: w).length := by omega
        have hd : (b :: w).drop n = (b :: w)[n] :: (b :: w).drop (n + 1) := List.drop_eq_getElem_cons hlt
        have hg : (b :: w).getD n 0 = (b :: w)[n] := by
          rw [List.getD_eq_getElem?_getD, List.getElem?_eq_getElem hlt]
          rfl
        rw [hg]
        cases hb : isBlank (b :: w)[n] with
        | true =>
          have : blanksN ((b :: w).drop n) = blanksN ((b :: w).drop (n + 1)) + 1 := by
            rw [hd, blanksN_cons, if_pos hb]
          rw [if_pos (by omega), if_pos rfl]
          rfl
        | false =>
          have : blanksN ((b :: w).drop n) = 0 := by
            rw [hd, blanksN_cons, if_neg (by simp [hb])]
          rw [if_neg (show ¬ 0 < blanksN ((b :: w).drop n) by omega), if_neg (show ¬ (false = true) by decide)]
          show (if 0 < lastB ((b :: w).take n) then lastB ((b :: w).take n) else n) = cutAt (b :: w) n
          unfold cutAt
          show _ = (if lastB ((b :: w).take n) = 0 then n else lastB ((b :: w).take n))
          by_cases h3 : lastB ((b :: w).take n) = 0
          · rw [if_neg (by omega), if_pos h3]
          · rw [if_pos (by omega), if_neg h3]
theorem rowLength_le {k : Look} (ht : 1 ≤ k.tab) (c : Nat) (w : Bytes) : rowLength k c w ≤ w.length := by
  rw [← rowEnd_eq ht]
  unfold rowEnd
  have h1 := fitL_le k w true c
  simp only
  split
  · exact h1
  · split
    · have := blanksN_le (w.drop (fitL k true c w))
      rw [List.length_drop] at this
      omega
    · split
      · have := lastB_le (w.take (fitL k true c w))
        rw [List.length_take] at this
        omega
      · exact h1
theorem rowLength_pos {k : Look} (ht : 1 ≤ k.tab) (c : Nat) {w : Bytes} (hw : 0 < w.length) : 0 < rowLength k c w := by
  rw [← rowEnd_eq ht]
  unfold rowEnd
  have h1 : 0 < fitL k true c w := by
    cases w with
    | nil => simp at hw
    | cons b w => rw [fitL_true ht]; omega
  simp only
  split
  · exact h1
  · split
    · omega
    · split <;> omega
/-! rows of a line, from the first on -/
theorem rowsFrom_fuel {k : Look} (ht : 1 ≤ k.tab) (nx : Nat) : ∀ (f f' a c : Nat) (w : Bytes), w.length < f → w.length < f' → rowsFrom k nx f a c w = rowsFrom k nx f' a c w
  | 0, _, _, _, _, h, _ => absurd h (Nat.not_lt_zero _)
  | _, 0, _, _, _, _, h => absurd h (Nat.not_lt_zero _)
  | f + 1, f' + 1, a, c, w, h, h' => by
    show (if w.length ≤ rowLength k c w then [⟨a, a + w.length, c⟩] else ⟨a, a + rowLength k c w, c⟩ :: rowsFrom k nx f (a + rowLength k c w) nx (w.drop (rowLength k c w))) = (if w.length ≤ rowLength k c w then [⟨a, a + w.length, c⟩] else ⟨a, a + rowLength k c w, c⟩ :: rowsFrom k nx f' (a + rowLength k c w) nx (w.drop (rowLength k c w)))
    by_cases q : w.length ≤ rowLength k c w
    · rw [if_pos q, if_pos q]
    · rw [if_neg q, if_neg q]
      have hp := rowLength_pos ht c (w := w) (by omega)
      rw [rowsFrom_fuel ht nx f f' _ _ _ (by rw [List.length_drop]; omega) (by rw [List.length_drop]; omega)]
/-- the rows from a byte of the line on, as line_rows' loop makes them -/
def restR (k : Look) (w : Bytes) (b : Nat) : List Row := if b < w.length then rowsFrom k (inset k w) (w.length + 1) b (inset k w) (w.drop b) else []
theorem rowsFrom_step {k : Look} (ht : 1 ≤ k.tab) {w : Bytes} {b c : Nat} (hb : b ≤ w.length) : rowsFrom k (inset k w) (w.length + 1) b c (w.drop b) = ⟨b, b + rowLength k c (w.drop b), c⟩ :: restR k w (b + rowLength k c (w.drop b)) := by
  have hle := rowLength_le ht c (w.drop b)
  have hd : (w.drop b).length = w.length - b := List.length_drop
  show (if (w.drop b).length ≤ rowLength k c (w.drop b) then [⟨b, b + (w.drop b).length, c⟩] else ⟨b, b + rowLength k c (w.drop b), c⟩ :: rowsFrom k (inset k w) w.length (b + rowLength k c (w.drop b)) (inset k w) ((w.drop b).drop (rowLength k c (w.drop b)))) = _
  by_cases q : (w.drop b).length ≤ rowLength k c (w.drop b)
  · have e : (w.drop b).length = rowLength k c (w.drop b) := by omega
    rw [if_pos q, ← e]
    unfold restR
    rw [if_neg (by omega)]
  · rw [if_neg q]
    have hp := rowLength_pos ht c (w := w.drop b) (by omega)
    unfold restR
    rw [if_pos (by omega), List.drop_drop, rowsFrom_fuel ht _ w.length (w.length + 1) _ _ _ (by rw [List.length_drop]; omega) (by rw [List.length_drop]; omega)]
theorem rows_first {k : Look} (ht : 1 ≤ k.tab) (w : Bytes) : rows k w = ⟨0, rowLength k 0 w, 0⟩ :: restR k w (rowLength k 0 w) := by
  have h := rowsFrom_step (k := k) ht (w := w) (b := 0) (c := 0) (Nat.zero_le _)
  rw [List.drop_zero, Nat.zero_add] at h
  exact h
theorem rows_next {k : Look} (ht : 1 ≤ k.tab) {w : Bytes} {b : Nat} (hb : b < w.length) : restR k w b = ⟨b, b + rowLength k (inset k w) (w.drop b), inset k w⟩ :: restR k w (b + rowLength k (inset k w) (w.drop b)) := by
  have h := rowsFrom_step (k := k) ht (w := w) (b := b) (c := inset k w) (Nat.le_of_lt hb)
  rw [← h]
  unfold restR
  rw [if_pos hb]
theorem restR_end {k : Look} {w : Bytes} {b : Nat} (hb : w.length ≤ b) : restR k w b = [] := by
  unfold restR
  rw [if_neg (by omega)]
/-- rows that lie one behind another, from a to e -/
inductive Tiles : Nat → List Row → Nat → Prop
  | one {a e c : Nat} : a ≤ e → Tiles a [⟨a, e, c⟩] e
  | cons {a b e c : Nat} {l : List Row} : a < b → b < e → Tiles b l e → Tiles a (⟨a, b, c⟩ :: l) e
theorem tiles_step {k : Look} (ht : 1 ≤ k.tab) (w : Bytes) : ∀ (n b c : Nat), w.length - b ≤ n → b ≤ w.length → (b = w.length → b = 0) → Tiles b (⟨b, b + rowLength k c (w.drop b), c⟩ :: restR k w (b + rowLength k c (w.drop b))) w.length
  | n, b, c, hn, hb, h0 => by
    have hle := rowLength_le ht c (w.drop b)
    rw [List.length_drop] at hle
    by_cases q : b + rowLength k c (w.drop b) = w.length
    · rw [restR_end (by omega), q]
      exact .one hb
    · have hlt : b < w.length := by omega
      have hp := rowLength_pos ht c (w := w.drop b) (by rw [List.length_drop]; omega)
      rw [rows_next ht (b := b + rowLength k c (w.drop b)) (by omega)]
      refine .cons (by omega) (by omega) ?_
      match n, hn with
      | 0, hn => omega
      | n + 1, hn => exact tiles_step ht w n _ _ (by omega) (by omega) (by omega)
theorem rows_tiles {k : Look} (ht : 1 ≤ k.tab) (w : Bytes) : Tiles 0 (rows k w) w.length := by
  rw [rows_first ht]
  have h := tiles_step ht w w.length 0 0 (by omega) (by omega) (fun _ => rfl)
  rw [List.drop_zero, Nat.zero_add] at h
  exact h
theorem Tiles.le {a e : Nat} {l : List Row} (h : Tiles a l e) : a ≤ e := by
  induction h with
  | one h => exact h
  | cons h1 h2 _ ih => omega
theorem Tiles.len {a e : Nat} {l : List Row} (h : Tiles a l e) : l.length ≤ e - a + 1 := by
  induction h with
  | one h => simp
  | cons h1 h2 h3 ih => have := h3.le; rw [List.length_cons]; omega
theorem Tiles.pos {a e : Nat} {l : List Row} (h : Tiles a l e) : 0 < l.length := by
  cases h <;> simp
/-- each row: its bytes; where it's the last one -/
theorem Tiles.mem {a e : Nat} {l : List Row} (h : Tiles a l e) : ∀ r ∈ l, a ≤ r.a ∧ r.a ≤ r.b ∧ r.b ≤ e ∧ (r.b < e → r.a < r.b) := by
  induction h with
  | one h =>
    intro r hr
    rw [List.mem_singleton] at hr
    subst hr
    exact ⟨Nat.le_refl _, h, Nat.le_refl _, fun z => absurd z (Nat.lt_irrefl _)⟩
  | cons h1 h2 h3 ih =>
    intro r hr
    rcases List.mem_cons.mp hr with rfl | hr
    · exact ⟨Nat.le_refl _, Nat.le_of_lt h1, Nat.le_of_lt h2, fun _ => h1⟩
    · have := ih r hr
      exact ⟨by omega, this.2.1, this.2.2.1, this.2.2.2⟩
/-- which row a place is in -/
def inRow (e p : Nat) (l : List Row) : Nat := (l.takeWhile fun r => decide (r.b ≤ p) && decide (r.b < e)).length
theorem inRow_lt {a e : Nat} {l : List Row} (h : Tiles a l e) (p : Nat) : inRow e p l < l.length := by
  unfold inRow
  induction h with
  | one h => rw [List.takeWhile_cons_of_neg (by simp)]; simp
  | cons h1 h2 h3 ih =>
    rename_i a b e c l
    cases q : (decide (b ≤ p) && decide (b < e)) with
    | true => rw [List.takeWhile_cons_of_pos (by exact q)]; simp only [List.length_cons]; omega
    | false => rw [List.takeWhile_cons_of_neg (by rw [q]; decide)]; simp
/-- row_number's loop: the last row of a line that begins no later than a place -/
def rn (ln p : Nat) : Nat → Nat → List (Nat × Row) → Nat
  | _, f, [] => f
  | i, f, x :: l => rn ln p (i + 1) (if x.1 = ln ∧ x.2.a ≤ p then i else f) l
theorem rn_append (ln p : Nat) : ∀ (l l' : List (Nat × Row)) (i f : Nat), rn ln p i f (l ++ l') = rn ln p (i + l.length) (rn ln p i f l) l'
  | [], l', i, f => rfl
  | x :: l, l', i, f => by
    show rn ln p (i + 1) _ (l ++ l') = rn ln p (i + (l.length + 1)) (rn ln p (i + 1) _ l) l'
    rw [rn_append ln p l l', show i + 1 + l.length = i + (l.length + 1) by omega]
theorem rn_other {ln p : Nat} : ∀ (l : List (Nat × Row)) (i f : Nat), (∀ x ∈ l, x.1 ≠ ln) → rn ln p i f l = f
  | [], _, _, _ => rfl
  | x :: l, i, f, h => by
    show rn ln p (i + 1) (if x.1 = ln ∧ x.2.a ≤ p then i else f) l = f
    rw [if_neg (fun z => h x (List.mem_cons_self ..) z.1)]
    exact rn_other l (i + 1) f fun y hy => h y (List.mem_cons_of_mem _ hy)
theorem rn_over {ln p : Nat} : ∀ (l : List Row) (i f : Nat), (∀ r ∈ l, p < r.a) → rn ln p i f (l.map fun r => (ln, r)) = f
  | [], _, _, _ => rfl
  | r :: l, i, f, h => by
    show rn ln p (i + 1) (if ln = ln ∧ r.a ≤ p then i else f) (l.map fun r => (ln, r)) = f
    rw [if_neg (fun z => by have := h r (List.mem_cons_self ..); omega)]
    exact rn_over l (i + 1) f fun y hy => h y (List.mem_cons_of_mem _ hy)
theorem rn_tiles {ln p a e : Nat} {l : List Row} (h : Tiles a l e) (hp : a ≤ p) : ∀ (i f : Nat), rn ln p i f (l.map fun r => (ln, r)) = i + inRow e p l := by
  unfold inRow
  induction h with
  | one h =>
    intro i f
    rw [List.takeWhile_cons_of_neg (by simp)]
    show (if ln = ln ∧ _ ≤ p then i else f) = i + 0
    rw [if_pos ⟨rfl, hp⟩]
    rfl
  | cons h1 h2 h3 ih =>
    rename_i a b e c l
    intro i f
    show rn ln p (i + 1) (if ln = ln ∧ a ≤ p then i else f) (l.map fun r => (ln, r)) = _
    rw [if_pos ⟨rfl, hp⟩]
    by_cases q : b ≤ p
    · rw [ih q, List.takeWhile_cons_of_pos (by simp [q, h2]), List.length_cons]
      omega
    · rw [List.takeWhile_cons_of_neg (by simp [q]), rn_over l _ _ fun r hr => by have := (h3.mem r hr).1; omega]
      rfl
/-- the row of a place has it -/
theorem inRow_at {a e p : Nat} {l : List Row} (h : Tiles a l e) (hp : a ≤ p) : ∃ r, l[inRow e p l]? = some r ∧ r.a ≤ p := by
  unfold inRow
  induction h with
  | one h =>
    rw [List.takeWhile_cons_of_neg (by simp)]
    exact ⟨_, rfl, hp⟩
  | cons h1 h2 h3 ih =>
    rename_i a b e c l
    by_cases q : b ≤ p
    · rw [List.takeWhile_cons_of_pos (by simp [q, h2]), List.length_cons]
      obtain ⟨r, hr, hq⟩ := ih q
      exact ⟨r, by rw [List.getElem?_cons_succ]; exact hr, hq⟩
    · rw [List.takeWhile_cons_of_neg (by simp [q])]
      exact ⟨_, rfl, hp⟩
/-- a place within a row is in it -/
theorem inRow_is {a e p i : Nat} {l : List Row} {r : Row} (h : Tiles a l e) (hi : l[i]? = some r) (h1 : r.a ≤ p) (h2 : r.b < e → p < r.b) : inRow e p l = i := by
  unfold inRow
  induction h generalizing i with
  | one h =>
    rw [List.takeWhile_cons_of_neg (by simp)]
    cases i with
    | zero => rfl
    | succ i => simp at hi
  | cons h3 h4 h5 ih =>
    rename_i a b e c l
    cases i with
    | zero =>
      rw [List.getElem?_cons_zero] at hi
      cases hi
      have := h2 h4
      rw [List.takeWhile_cons_of_neg (by simp only [Bool.and_eq_true, decide_eq_true_eq]; simp only at this; omega)]
      rfl
    | succ i =>
      rw [List.getElem?_cons_succ] at hi
      have hm := h5.mem r (List.mem_of_getElem? hi)
      rw [List.takeWhile_cons_of_pos (by simp only [Bool.and_eq_true, decide_eq_true_eq]; omega), List.length_cons, ih hi h2]
/-! places of a row -/
theorem placeFrom_ge (k : Look) (want : Nat) : ∀ (f p c : Nat) (w : Bytes), p ≤ placeFrom k want f p c w
  | 0, p, c, w => Nat.le_refl _
  | f + 1, p, c, [] => Nat.le_refl _
  | f + 1, p, c, b :: w => by
    show p ≤ (if want < c + cost k c b then p else placeFrom k want f (p + 1) (c + cost k c b) w)
    split
    · exact Nat.le_refl _
    · exact Nat.le_trans (Nat.le_succ p) (placeFrom_ge k want f _ _ w)
theorem placeFrom_take (k : Look) (want : Nat) : ∀ (f p c : Nat) (w : Bytes), placeFrom k want f p c (w.take f) = placeFrom k want f p c w
  | 0, p, c, w => rfl
  | f + 1, p, c, [] => rfl
  | f + 1, p, c, b :: w => by
    show (if want < c + cost k c b then p else placeFrom k want f (p + 1) (c + cost k c b) (w.take f)) = (if want < c + cost k c b then p else placeFrom k want f (p + 1) (c + cost k c b) w)
    rw [placeFrom_take k want f]
theorem placeFrom_min (k : Look) (want : Nat) : ∀ (m f p c : Nat) (w : Bytes), m ≤ f → min (p + m) (placeFrom k want f p c w) = placeFrom k want m p c w
  | 0, f, p, c, w, h => by
    have := placeFrom_ge k want f p c w
    show min (p + 0) _ = p
    omega
  | m + 1, 0, p, c, w, h => by omega
  | m + 1, f + 1, p, c, [], h => by
    show min (p + (m + 1)) p = p
    omega
  | m + 1, f + 1, p, c, b :: w, h => by
    show min (p + (m + 1)) (if want < c + cost k c b then p else placeFrom k want f (p + 1) (c + cost k c b) w) = (if want < c + cost k c b then p else placeFrom k want m (p + 1) (c + cost k c b) w)
    split
    · omega
    · rw [show p + (m + 1) = p + 1 + m by omega]
      exact placeFrom_min k want m f (p + 1) _ w (by omega)
theorem placeIn_eq (k : Look) (w : Bytes) (r : Row) (want : Nat) (h1 : r.a ≤ r.b) (h2 : r.b < w.length → r.a < r.b) :
    placeIn k w r want = placeFrom k want ((if r.b < w.length then r.b - 1 else r.b) - r.a) r.a r.col (w.drop r.a) := by
  unfold placeIn
  rw [List.drop_take, placeFrom_take]
  have e : (if r.b < w.length then r.b - 1 else r.b) = r.a + ((if r.b < w.length then r.b - 1 else r.b) - r.a) := by
    split <;> omega
  simp only
  rw [e, placeFrom_min k want _ _ _ _ _ (by split <;> omega), Nat.add_sub_cancel_left]
theorem placeIn_in (k : Look) (w : Bytes) (r : Row) (want : Nat) (h1 : r.a ≤ r.b) (h2 : r.b < w.length → r.a < r.b) (h3 : r.b ≤ w.length) :
    r.a ≤ placeIn k w r want ∧ (r.b < w.length → placeIn k w r want < r.b) ∧ placeIn k w r want ≤ w.length := by
  have h := placeFrom_ge k want (r.b - r.a) r.a r.col ((w.take r.b).drop r.a)
  unfold placeIn
  simp only
  refine ⟨?_, fun q => ?_, ?_⟩
  · split <;> omega
  · rw [if_pos q]
    have := h2 q
    omega
  · split <;> omega
end FV
/-! ### The mathematics: lines that are seen, all rows -/
namespace FV
open Ue07
theorem sorted_split {s : List Nat} (hs : s.Pairwise (· < ·)) {i : Nat} (hi : i ∈ s) : ∃ pre post, s = pre ++ i :: post ∧ (∀ x ∈ pre, x < i) ∧ (∀ x ∈ post, i < x) := by
  obtain ⟨pre, post, e⟩ := List.append_of_mem hi
  subst e
  rw [List.pairwise_append, List.pairwise_cons] at hs
  exact ⟨pre, post, rfl, fun x hx => hs.2.2 x hx i (List.mem_cons_self ..), fun x hx => hs.2.1.1 x hx⟩
theorem split_lt {pre post : List Nat} {i : Nat} (h1 : ∀ x ∈ pre, x < i) (h2 : ∀ x ∈ post, i < x) : (pre ++ i :: post).filter (fun x => decide (x < i)) = pre := by
  rw [List.filter_append, List.filter_cons_of_neg (by simp), List.filter_eq_self.mpr (fun x hx => by simpa using h1 x hx), List.filter_eq_nil_iff.mpr (fun x hx => by have := h2 x hx; simp; omega), List.append_nil]
theorem split_gt {pre post : List Nat} {i : Nat} (h1 : ∀ x ∈ pre, x < i) (h2 : ∀ x ∈ post, i < x) : (pre ++ i :: post).find? (fun x => decide (i < x)) = post.head? := by
  rw [List.find?_append, List.find?_eq_none.mpr (fun x hx => by have := h1 x hx; simp; omega), List.find?_cons_of_neg (by simp)]
  cases post with
  | nil => rfl
  | cons y r => rw [List.find?_cons_of_pos (by simpa using h2 y (List.mem_cons_self ..))]; rfl
theorem seen_sorted (l : List Fold) (n : Nat) : (seen l n).Pairwise (· < ·) := List.Pairwise.filter _ List.pairwise_lt_range
theorem mem_seen {l : List Fold} {n i : Nat} : i ∈ seen l n ↔ i < n ∧ hidden l i = false := by
  unfold seen
  rw [List.mem_filter, List.mem_range]
  simp
theorem seen_len (l : List Fold) (n : Nat) : (seen l n).length ≤ n := by
  have := List.length_filter_le (fun i => !hidden l i) (List.range n)
  rw [List.length_range] at this
  exact this
section
variable (R : Nat → List Row)
abbrev tag (n : Nat) : List (Nat × Row) := (R n).map fun r => (n, r)
theorem sum_rows : ∀ (l : List Nat) (a : Nat), (l.map fun i => (R i).length).foldl (fun a b => a + b) a = a + (l.flatMap (tag R)).length
  | [], a => rfl
  | x :: l, a => by
    rw [List.map_cons, List.foldl_cons, sum_rows l, List.flatMap_cons, List.length_append, List.length_map]
    omega
theorem mem_tag {l : List Nat} {x : Nat × Row} (h : x ∈ l.flatMap (tag R)) : x.1 ∈ l ∧ x.2 ∈ R x.1 := by
  obtain ⟨n, hn, hx⟩ := List.mem_flatMap.mp h
  obtain ⟨r, hr, rfl⟩ := List.mem_map.mp hx
  exact ⟨hn, hr⟩
theorem flat_at : ∀ (l : List Nat) (i : Nat), i < (l.flatMap (tag R)).length → ∃ pre n post j r, l = pre ++ n :: post ∧ i = (pre.flatMap (tag R)).length + j ∧ (R n)[j]? = some r ∧ (l.flatMap (tag R))[i]? = some (n, r)
  | [], i, h => by simp at h
  | x :: l, i, h => by
    by_cases q : i < (R x).length
    · refine ⟨[], x, l, i, (R x)[i], rfl, by simp, List.getElem?_eq_getElem q, ?_⟩
      rw [List.flatMap_cons, List.getElem?_append_left (by rw [List.length_map]; exact q), List.getElem?_map, List.getElem?_eq_getElem q]
      rfl
    · rw [List.flatMap_cons, List.length_append, List.length_map] at h
      obtain ⟨pre, n, post, j, r, e1, e2, e3, e4⟩ := flat_at l (i - (R x).length) (by omega)
      refine ⟨x :: pre, n, post, j, r, by rw [e1]; rfl, ?_, e3, ?_⟩
      · rw [List.flatMap_cons, List.length_append, List.length_map]
        omega
      · rw [List.flatMap_cons, List.getElem?_append_right (by rw [List.length_map]; omega), List.length_map]
        exact e4
theorem flat_len_le {b : Nat} : ∀ (l : List Nat), (∀ n ∈ l, (R n).length ≤ b) → (l.flatMap (tag R)).length ≤ l.length * b
  | [], _ => by simp
  | x :: l, h => by
    have h1 := flat_len_le l fun n hn => h n (List.mem_cons_of_mem _ hn)
    have h2 := h x (List.mem_cons_self ..)
    rw [List.flatMap_cons, List.length_append, List.length_map, List.length_cons, Nat.add_mul]
    omega
end
/-- the rows of a line -/
abbrev rowsOf (g : St) (n : Nat) : List Row := rows g.look (lineAt g n)
theorem allRows_eq (g : St) : allRows g = (seen g.folds g.lines.length).flatMap (tag (rowsOf g)) := rfl
/-! ### what stays true of the state -/
structure WF0 (g : St) : Prop where
  lk : lookOk g.look = true
  n1 : 1 ≤ g.lines.length
  n2 : g.lines.length ≤ 30
  ln : ∀ w ∈ g.lines, w.length ≤ 120
  pl : g.line < g.lines.length
  sn : hidden g.folds g.line = false
  pc : g.place ≤ (lineAt g g.line).length
  fl : g.folds.length ≤ 12
  fw : ∀ f ∈ g.folds, f.1 ≤ f.2
  h1 : 1 ≤ g.high
  h2 : g.high ≤ 60
structure WF (g : St) : Prop extends WF0 g where
  tp : g.top ≤ rowCount g - g.high
  tr : g.top ≤ pointRow g
theorem lookOk_iff {k : Look} : lookOk k = true ↔ 4 ≤ k.wide ∧ k.wide ≤ 100 ∧ 1 ≤ k.tab ∧ k.tab ≤ 16 ∧ k.more ≤ 100 := by
  unfold lookOk
  simp
section
variable {g : St}
theorem WF0.tab (h : WF0 g) : 1 ≤ g.look.tab := (lookOk_iff.mp h.lk).2.2.1
theorem WF0.mem (h : WF0 g) : g.line ∈ seen g.folds g.lines.length := mem_seen.mpr ⟨h.pl, h.sn⟩
theorem lineAt_get {n : Nat} (h : n < g.lines.length) : g.lines[n]? = some (lineAt g n) := by
  unfold lineAt
  rw [List.getD_eq_getElem?_getD, List.getElem?_eq_getElem h]
  rfl
theorem WF0.len (h : WF0 g) (n : Nat) : (lineAt g n).length ≤ 120 := by
  by_cases q : n < g.lines.length
  · exact h.ln _ (List.mem_of_getElem? (lineAt_get q))
  · unfold lineAt
    rw [List.getD_eq_getElem?_getD, List.getElem?_eq_none (by omega)]
    simp
theorem WF0.rows_len (h : WF0 g) (n : Nat) : (rowsOf g n).length ≤ 121 := by
  have h1 := (rows_tiles h.tab (lineAt g n)).len
  have h2 := h.len n
  show (rows g.look (lineAt g n)).length ≤ 121
  omega
theorem WF0.all_len (h : WF0 g) : (allRows g).length ≤ 3630 := by
  have h1 := flat_len_le (rowsOf g) (b := 121) (seen g.folds g.lines.length) fun n _ => h.rows_len n
  have h2 := seen_len g.folds g.lines.length
  have h3 := h.n2
  rw [allRows_eq]
  have : (seen g.folds g.lines.length).length * 121 ≤ 30 * 121 := Nat.mul_le_mul_right _ (by omega)
  omega
/-- a line that's seen parts the lines that are seen -/
theorem seen_split (g : St) {n : Nat} (hn : n ∈ seen g.folds g.lines.length) : ∃ pre post, seen g.folds g.lines.length = pre ++ n :: post ∧ (∀ x ∈ pre, x < n) ∧ (∀ x ∈ post, n < x) ∧ rowsAhead g n = (pre.flatMap (tag (rowsOf g))).length := by
  obtain ⟨pre, post, e, h1, h2⟩ := sorted_split (seen_sorted _ _) hn
  refine ⟨pre, post, e, h1, h2, ?_⟩
  unfold rowsAhead
  rw [e, split_lt h1 h2]
  have := sum_rows (rowsOf g) pre 0
  rw [Nat.zero_add] at this
  exact this
/-- where a place of a line that's seen is -/
theorem place_row (ht : 1 ≤ g.look.tab) {n p : Nat} (hn : n ∈ seen g.folds g.lines.length) :
    rn n p 0 0 (allRows g) = rowsAhead g n + (rowAt g.look (lineAt g n) p).1 ∧ (allRows g)[rowsAhead g n + (rowAt g.look (lineAt g n) p).1]? = some (n, (rowAt g.look (lineAt g n) p).2) := by
  obtain ⟨pre, post, e, h1, h2, ha⟩ := seen_split g hn
  have tl := rows_tiles ht (lineAt g n)
  obtain ⟨r, hr, hra⟩ := inRow_at (p := p) tl (Nat.zero_le _)
  have e1 : (rowAt g.look (lineAt g n) p).1 = inRow (lineAt g n).length p (rows g.look (lineAt g n)) := rfl
  have e2 : (rowAt g.look (lineAt g n) p).2 = r := by
    show (rows g.look (lineAt g n)).getD (inRow (lineAt g n).length p (rows g.look (lineAt g n))) ⟨0, 0, 0⟩ = r
    rw [List.getD_eq_getElem?_getD, hr]
    rfl
  have ef : allRows g = pre.flatMap (tag (rowsOf g)) ++ (tag (rowsOf g) n ++ post.flatMap (tag (rowsOf g))) := by
    rw [allRows_eq, e, List.flatMap_append, List.flatMap_cons]
  refine ⟨?_, ?_⟩
  · rw [ef, rn_append, rn_append, rn_other (pre.flatMap _) _ _ (fun x hx => by have := h1 _ (mem_tag _ hx).1; omega), rn_other (post.flatMap _) _ _ (fun x hx => by have := h2 _ (mem_tag _ hx).1; omega), rn_tiles tl (Nat.zero_le _), ha, e1, Nat.zero_add]
  · have hlt := inRow_lt tl p
    rw [ef, ha, e1, List.getElem?_append_right (by omega), Nat.add_sub_cancel_left, List.getElem?_append_left (by rw [List.length_map]; exact hlt), List.getElem?_map, hr, e2]
    rfl
theorem place_lt (ht : 1 ≤ g.look.tab) {n p : Nat} (hn : n ∈ seen g.folds g.lines.length) : rowsAhead g n + (rowAt g.look (lineAt g n) p).1 < (allRows g).length := by
  have h := (place_row (p := p) ht hn).2
  exact (List.getElem?_eq_some_iff.mp h).1
/-- a row's place is in that row -/
theorem put_row (ht : 1 ≤ g.look.tab) {i : Nat} (hi : i < (allRows g).length) (want : Nat) : ∃ n r, (allRows g)[i]? = some (n, r) ∧ n ∈ seen g.folds g.lines.length ∧ r ∈ rowsOf g n ∧
    placeIn g.look (lineAt g n) r want ≤ (lineAt g n).length ∧ rowsAhead g n + (rowAt g.look (lineAt g n) (placeIn g.look (lineAt g n) r want)).1 = i := by
  obtain ⟨pre, n, post, j, r, e1, e2, e3, e4⟩ := flat_at (rowsOf g) _ _ (by rw [allRows_eq] at hi; exact hi)
  have hn : n ∈ seen g.folds g.lines.length := by rw [e1]; simp
  have hr : r ∈ rowsOf g n := List.mem_of_getElem? e3
  have tl := rows_tiles ht (lineAt g n)
  have hm := tl.mem r hr
  have hp := placeIn_in g.look (lineAt g n) r want hm.2.1 hm.2.2.2 hm.2.2.1
  refine ⟨n, r, e4, hn, hr, hp.2.2, ?_⟩
  have hs := seen_sorted g.folds g.lines.length
  have ha : rowsAhead g n = (pre.flatMap (tag (rowsOf g))).length := by
    rw [e1, List.pairwise_append, List.pairwise_cons] at hs
    have h1 : ∀ x ∈ pre, x < n := fun x hx => hs.2.2 x hx n (List.mem_cons_self ..)
    have h2 : ∀ x ∈ post, n < x := fun x hx => hs.2.1.1 x hx
    unfold rowsAhead
    rw [e1, split_lt h1 h2]
    have := sum_rows (rowsOf g) pre 0
    rw [Nat.zero_add] at this
    exact this
  have er : (rowAt g.look (lineAt g n) (placeIn g.look (lineAt g n) r want)).1 = j := inRow_is tl e3 hp.1 hp.2.1
  rw [ha, er, e2]
end
theorem WF0.point (h : WF0 g) : rn g.line g.place 0 0 (allRows g) = pointRow g ∧ (allRows g)[pointRow g]? = some (g.line, (rowAt g.look (lineAt g g.line) g.place).2) := place_row h.tab h.mem
theorem WF0.point_lt (h : WF0 g) : pointRow g < (allRows g).length := place_lt h.tab h.mem
theorem WF0.rows_pos (h : WF0 g) : 0 < (allRows g).length := Nat.lt_of_le_of_lt (Nat.zero_le _) h.point_lt
/-! ### scrolled -/
def margin (g : St) : Nat := min g.margin ((g.high - 1) / 2)
theorem WF0.margin_le (h : WF0 g) : 2 * FV.margin g + 1 ≤ g.high := by
  have := h.h1
  unfold FV.margin
  omega
theorem WF0.top (h : WF0 g) (t : Nat) : WF0 { g with top := t } := ⟨h.lk, h.n1, h.n2, h.ln, h.pl, h.sn, h.pc, h.fl, h.fw, h.h1, h.h2⟩
theorem WF0.wish (h : WF0 g) (t : Option Nat) : WF0 { g with wish := t } := ⟨h.lk, h.n1, h.n2, h.ln, h.pl, h.sn, h.pc, h.fl, h.fw, h.h1, h.h2⟩
theorem WF0.scrolled (h : WF0 g) : WF (scrolled g) := by
  have hm := h.margin_le
  refine ⟨h.top _, ?_, ?_⟩
  · show min (max (pointRow g + FV.margin g + 1 - g.high) (min g.top (pointRow g - FV.margin g))) (rowCount g - g.high) ≤ rowCount g - g.high
    omega
  · show min (max (pointRow g + FV.margin g + 1 - g.high) (min g.top (pointRow g - FV.margin g))) (rowCount g - g.high) ≤ pointRow g
    omega
end FV
/-! ### The mathematics: the point put into a row; folds and the point; steps -/
namespace FV
open Ue07
variable {g : St}
/-- the point put into a row, ahead of the scrolling -/
def putAt (g : St) (i : Nat) : St := match (allRows g)[i]? with
  | none => g
  | some x => { g with line := x.1, place := placeIn g.look (lineAt g x.1) x.2 (g.wish.getD (pointCol g)), wish := some (g.wish.getD (pointCol g)) }
theorem putAt_some {i : Nat} {x : Nat × Row} (h : (allRows g)[i]? = some x) : putAt g i = { g with line := x.1, place := placeIn g.look (lineAt g x.1) x.2 (g.wish.getD (pointCol g)), wish := some (g.wish.getD (pointCol g)) } := by
  unfold putAt
  rw [h]
theorem toRow_eq {i : Nat} (h : i < (allRows g).length) : toRow g i = scrolled (putAt g i) := by
  unfold toRow putAt
  rw [List.getElem?_eq_getElem h]
  rfl
theorem WF0.put (W : WF0 g) {i : Nat} (h : i < (allRows g).length) : WF0 (putAt g i) ∧ pointRow (putAt g i) = i := by
  obtain ⟨n, r, h1, h2, h3, h4, h5⟩ := put_row W.tab h (g.wish.getD (pointCol g))
  rw [putAt_some h1]
  have hm := mem_seen.mp h2
  exact ⟨⟨W.lk, W.n1, W.n2, W.ln, hm.1, hm.2, h4, W.fl, W.fw, W.h1, W.h2⟩, h5⟩
/-! a line that's hidden -/
theorem hidden_false {l : List Fold} {n : Nat} : hidden l n = false ↔ ∀ f ∈ l, hides f n = false := by
  unfold hidden
  rw [List.any_eq_false]
  constructor
  · intro h f hf
    have := h f hf
    simpa using this
  · intro h f hf
    rw [h f hf]
    decide
theorem hides_iff {f : Fold} {n : Nat} : hides f n = true ↔ f.1 < n ∧ n < f.2 := by
  unfold hides
  simp
/-- how many folds begin ahead of a line -/
def ahead (l : List Fold) (n : Nat) : Nat := l.countP fun f => decide (f.1 < n)
theorem ahead_lt {l : List Fold} {x : Fold} {n : Nat} (hx : x ∈ l) (h : x.1 < n) : ahead l x.1 < ahead l n := by
  unfold ahead
  induction l with
  | nil => cases hx
  | cons y l ih =>
    rw [List.countP_cons, List.countP_cons]
    have hle : l.countP (fun f => decide (f.1 < x.1)) ≤ l.countP fun f => decide (f.1 < n) := List.countP_mono_left fun f _ hf => by
      have := of_decide_eq_true hf
      exact decide_eq_true (by omega)
    rcases List.mem_cons.mp hx with rfl | hx
    · rw [if_neg (by simp), if_pos (by simpa using h)]
      omega
    · have := ih hx
      by_cases c : y.1 < x.1
      · rw [if_pos (by simpa using c), if_pos (by simp; omega)]
        omega
      · rw [if_neg (by simpa using c)]
        split <;> omega
/-- lines from one (without) to another (with) are hidden -/
def Hid (l : List Fold) (m n : Nat) : Prop := m ≤ n ∧ ∀ j, m < j → j ≤ n → hidden l j = true
theorem Hid.refl (l : List Fold) (n : Nat) : Hid l n n := ⟨Nat.le_refl _, fun j h1 h2 => by omega⟩
theorem Hid.step {l : List Fold} {m n : Nat} {x : Fold} (hx : x ∈ l) (hh : hides x m = true) (h : Hid l m n) : Hid l x.1 n := by
  have h1 := hides_iff.mp hh
  refine ⟨by have := h.1; omega, fun j h2 h3 => ?_⟩
  by_cases c : j ≤ m
  · exact List.any_eq_true.mpr ⟨x, hx, hides_iff.mpr ⟨h2, by omega⟩⟩
  · exact h.2 j (by omega) h3
theorem Hid.uniq {l : List Fold} {m m' n : Nat} (h : Hid l m n) (h' : Hid l m' n) (e : hidden l m = false) (e' : hidden l m' = false) : m = m' := by
  rcases Nat.lt_trichotomy m m' with c | c | c
  · have := h.2 m' c h'.1
    rw [e'] at this
    cases this
  · exact c
  · have := h'.2 m c h.1
    rw [e] at this
    cases this
theorem seenFor_hid {l : List Fold} {n0 : Nat} : ∀ (f n : Nat), ahead l n < f → Hid l n n0 → Hid l (seenFor f l n) n0 ∧ hidden l (seenFor f l n) = false
  | 0, n, h, _ => absurd h (Nat.not_lt_zero _)
  | f + 1, n, h, hd => by
    unfold seenFor
    cases e : l.find? fun x => hides x n with
    | none =>
      simp only
      refine ⟨hd, hidden_false.mpr fun x hx => ?_⟩
      have := List.find?_eq_none.mp e x hx
      simpa using this
    | some x =>
      simp only
      have hx := List.mem_of_find?_eq_some e
      have hh := List.find?_some e
      have h1 := ahead_lt hx (hides_iff.mp hh).1
      exact seenFor_hid f x.1 (by omega) (Hid.step hx hh hd)
theorem seenFor_is {l : List Fold} {n m : Nat} (h : Hid l m n) (e : hidden l m = false) : seenFor (l.length + 1) l n = m := by
  have hle : ahead l n ≤ l.length := List.countP_le_length
  have h2 := seenFor_hid (l := l) (n0 := n) (l.length + 1) n (by omega) (Hid.refl l n)
  exact Hid.uniq h2.1 h h2.2 e
theorem seenFor_self {l : List Fold} {n : Nat} (e : hidden l n = false) : seenFor (l.length + 1) l n = n := seenFor_is (Hid.refl l n) e
/-- bring_point_out's walk -/
def bpo1 (ls : List Bytes) (x : Nat × Nat) (f : Fold) : Nat × Nat := if hides f x.1 = true then (f.1, min x.2 (ls.getD f.1 []).length) else x
def bpo (ls : List Bytes) (fs : List Fold) (x : Nat × Nat) : Nat × Nat := fs.foldl (bpo1 ls) x
theorem bpo_le (ls : List Bytes) : ∀ (fs : List Fold) (x : Nat × Nat), (bpo ls fs x).1 ≤ x.1 ∧ (bpo ls fs x).2 ≤ x.2
  | [], x => ⟨Nat.le_refl _, Nat.le_refl _⟩
  | f :: fs, x => by
    have h := bpo_le ls fs (bpo1 ls x f)
    show (bpo ls fs (bpo1 ls x f)).1 ≤ x.1 ∧ (bpo ls fs (bpo1 ls x f)).2 ≤ x.2
    have h1 : (bpo1 ls x f).1 ≤ x.1 ∧ (bpo1 ls x f).2 ≤ x.2 := by
      unfold bpo1
      split
      · rename_i c
        have := (hides_iff.mp c).1
        exact ⟨by show f.1 ≤ x.1; omega, by show min x.2 _ ≤ x.2; omega⟩
      · exact ⟨Nat.le_refl _, Nat.le_refl _⟩
    omega
theorem bpo_hid {l : List Fold} (ls : List Bytes) {n0 : Nat} : ∀ (fs done : List Fold) (x : Nat × Nat), (∀ f ∈ fs, f ∈ l) → fs.Pairwise (fun a b => b.1 ≤ a.1) → (∀ f ∈ done, ∀ f' ∈ fs, f'.1 ≤ f.1) → Hid l x.1 n0 → (∀ f ∈ done, hides f x.1 = false) →
    Hid l (bpo ls fs x).1 n0 ∧ ∀ f ∈ done ++ fs, hides f (bpo ls fs x).1 = false
  | [], done, x, _, _, _, hd, hn => ⟨hd, by rw [List.append_nil]; exact hn⟩
  | f :: fs, done, x, hm, hs, ho, hd, hn => by
    rw [List.pairwise_cons] at hs
    have ih := bpo_hid (l := l) ls (n0 := n0) fs (done ++ [f]) (bpo1 ls x f) (fun y hy => hm y (List.mem_cons_of_mem _ hy)) hs.2
      (fun y hy z hz => by
        rcases List.mem_append.mp hy with h | h
        · exact ho y h z (List.mem_cons_of_mem _ hz)
        · rw [List.mem_singleton] at h
          rw [h]
          exact hs.1 z hz)
      (by
        unfold bpo1
        split
        · rename_i c
          show Hid l f.1 n0
          exact Hid.step (hm f (List.mem_cons_self ..)) c hd
        · exact hd)
      (by
        unfold bpo1
        split
        · rename_i c
          intro y hy
          rcases List.mem_append.mp hy with h | h
          · have := ho y h f (List.mem_cons_self ..)
            show hides y f.1 = false
            unfold hides
            rw [decide_eq_false (by omega), Bool.false_and]
          · rw [List.mem_singleton] at h
            rw [h]
            show hides f f.1 = false
            unfold hides
            rw [decide_eq_false (by omega), Bool.false_and]
        · rename_i c
          intro y hy
          rcases List.mem_append.mp hy with h | h
          · exact hn y h
          · rw [List.mem_singleton] at h
            rw [h]
            simpa using c)
    rw [List.append_assoc] at ih
    exact ih
theorem bpo_line {l ys : List Fold} (ls : List Bytes) (hp : ys.Perm l) (hs : ys.Pairwise (fun a b => b.1 ≤ a.1)) (n p : Nat) : (bpo ls ys (n, p)).1 = seenFor (l.length + 1) l n ∧ hidden l (bpo ls ys (n, p)).1 = false := by
  have h := bpo_hid (l := l) ls (n0 := n) ys [] (n, p) (fun f hf => hp.mem_iff.mp hf) hs (fun f hf => by cases hf) (Hid.refl l n) (fun f hf => by cases hf)
  have e : hidden l (bpo ls ys (n, p)).1 = false := hidden_false.mpr fun f hf => h.2 f (hp.mem_iff.mpr hf)
  exact ⟨(seenFor_is h.1 e).symm, e⟩
theorem bpo_none {ls : List Bytes} : ∀ {fs : List Fold} {x : Nat × Nat}, (∀ f ∈ fs, hides f x.1 = false) → bpo ls fs x = x
  | [], x, _ => rfl
  | f :: fs, x, h => by
    show bpo ls fs (bpo1 ls x f) = x
    have e : bpo1 ls x f = x := by
      unfold bpo1
      rw [if_neg (by rw [h f (List.mem_cons_self ..)]; decide)]
    rw [e]
    exact bpo_none fun y hy => h y (List.mem_cons_of_mem _ hy)
/-- where one fold alone hides the point, and nothing its first line -/
theorem bpo_one {ls : List Bytes} {x : Nat × Nat} {y : Fold} (hy : hides y x.1 = true) : ∀ {fs : List Fold}, y ∈ fs → (∀ f ∈ fs, f = y ∨ (hides f x.1 = false ∧ hides f y.1 = false)) → bpo ls fs x = (y.1, min x.2 (ls.getD y.1 []).length)
  | [], h, _ => by cases h
  | f :: fs, hm, ho => by
    show bpo ls fs (bpo1 ls x f) = _
    have hself : hides y y.1 = false := by
      unfold hides
      rw [decide_eq_false (by omega), Bool.false_and]
    by_cases c : f = y
    · have e : bpo1 ls x f = (y.1, min x.2 (ls.getD y.1 []).length) := by
        unfold bpo1
        rw [c, if_pos hy]
      rw [e]
      refine bpo_none fun z hz => ?_
      rcases ho z (List.mem_cons_of_mem _ hz) with h | h
      · rw [h]; exact hself
      · exact h.2
    · have e : bpo1 ls x f = x := by
        unfold bpo1
        rw [if_neg (by rw [((ho f (List.mem_cons_self ..)).resolve_left c).1]; decide)]
      rw [e]
      refine bpo_one hy ?_ fun z hz => ho z (List.mem_cons_of_mem _ hz)
      rcases List.mem_cons.mp hm with h | h
      · exact absurd h.symm c
      · exact h
/-! steps to the left, to the right -/
theorem WF0.left (W : WF0 g) : WF0 (oneLeft g) := by
  unfold oneLeft
  split
  · exact ⟨W.lk, W.n1, W.n2, W.ln, W.pl, W.sn, Nat.le_trans (Nat.sub_le _ _) W.pc, W.fl, W.fw, W.h1, W.h2⟩
  · split
    · exact W
    · rename_i n hn
      have hm := (List.mem_filter.mp (List.mem_of_getLast? hn)).1
      have h := mem_seen.mp hm
      exact ⟨W.lk, W.n1, W.n2, W.ln, h.1, h.2, Nat.le_refl _, W.fl, W.fw, W.h1, W.h2⟩
theorem WF0.right (W : WF0 g) : WF0 (oneRight g) := by
  unfold oneRight
  split
  · rename_i c
    exact ⟨W.lk, W.n1, W.n2, W.ln, W.pl, W.sn, c, W.fl, W.fw, W.h1, W.h2⟩
  · split
    · exact W
    · rename_i n hn
      have h := mem_seen.mp (List.mem_of_find?_eq_some hn)
      exact ⟨W.lk, W.n1, W.n2, W.ln, h.1, h.2, Nat.zero_le _, W.fl, W.fw, W.h1, W.h2⟩
theorem several_succ (f : St → St) (k : Nat) (g : St) : several f (k + 1) g = f (several f k g) := by
  unfold several
  rw [List.range_succ, List.foldl_append]
  rfl
/-- what a step leaves -/
theorem left_keeps (g : St) : (oneLeft g).folds = g.folds ∧ (oneLeft g).lines = g.lines := by
  unfold oneLeft
  split
  · exact ⟨rfl, rfl⟩
  · split <;> exact ⟨rfl, rfl⟩
theorem right_keeps (g : St) : (oneRight g).folds = g.folds ∧ (oneRight g).lines = g.lines := by
  unfold oneRight
  split
  · exact ⟨rfl, rfl⟩
  · split <;> exact ⟨rfl, rfl⟩
end FV
/-! ### The mathematics: scroll, fold, edit -/
namespace FV
open Ue07
variable {g : St}
theorem WF0.count_pos (W : WF0 g) : 0 < rowCount g := W.rows_pos
/-- the top behind a scroll -/
def sTop (g : St) (c : Bool) (k : Nat) : Nat := if c = true then g.top - k else min (g.top + k) (rowCount g - g.high)
def sLow (g : St) (t : Nat) : Nat := if t = 0 then 0 else t + margin g
def sUp (g : St) (t : Nat) : Nat := if rowCount g ≤ t + g.high then rowCount g - 1 else t + g.high - 1 - margin g
def sFree (g : St) (t : Nat) : Nat := min (max (pointRow g) (sLow g t)) (sUp g t)
def sEnd (g : St) (t : Nat) : St := if sFree g t = pointRow g then { g with top := t } else putAt { g with top := t } (sFree g t)
theorem putAt_top (g : St) (i : Nat) : (putAt g i).top = g.top := by
  unfold putAt
  split <;> rfl
theorem WF.sTop_le (W : WF g) (c : Bool) (k : Nat) : sTop g c k ≤ rowCount g - g.high := by
  unfold sTop
  have := W.tp
  split <;> omega
theorem sFree_lt (W : WF g) {t : Nat} : sFree g t < rowCount g := by
  have h1 := W.toWF0.count_pos
  unfold sFree sUp
  split <;> omega
theorem scroll_wf (W : WF g) {t : Nat} (ht : t ≤ rowCount g - g.high) : WF (sEnd g t) := by
  have hm := W.toWF0.margin_le
  have hp : pointRow g < rowCount g := W.toWF0.point_lt
  have hf := sFree_lt W (t := t)
  have hlow : t ≤ sLow g t := by unfold sLow; split <;> omega
  have hlu : sLow g t ≤ sUp g t := by
    unfold sLow sUp
    split <;> split <;> omega
  have hfl : t ≤ sFree g t := by unfold sFree; omega
  unfold sEnd
  split
  · rename_i c
    refine ⟨W.toWF0.top t, ht, ?_⟩
    show t ≤ pointRow g
    omega
  · obtain ⟨w0, hr⟩ := (W.toWF0.top t).put (i := sFree g t) hf
    refine ⟨w0, ?_, ?_⟩
    · rw [putAt_top]
      have e : rowCount (putAt { g with top := t } (sFree g t)) = rowCount g ∧ (putAt { g with top := t } (sFree g t)).high = g.high := by
        unfold putAt
        split <;> exact ⟨rfl, rfl⟩
      rw [e.1, e.2]
      exact ht
    · rw [putAt_top, hr]
      exact hfl
theorem top_back (h : St) {t : Nat} (e : h.top = t) : { scrolled h with top := t } = h := by
  subst e
  rfl
theorem scroll_step (W : WF g) {c : Bool} {k : Nat} (hk : k ≤ 100) : step g (.scroll c k) = answers (sEnd g (sTop g c k)) := by
  have ht := W.sTop_le c k
  have hm := W.toWF0.margin_le
  have hp : pointRow g < rowCount g := W.toWF0.point_lt
  have hf := sFree_lt W (t := sTop g c k)
  have hlu : sLow g (sTop g c k) ≤ sUp g (sTop g c k) := by
    unfold sLow sUp
    split <;> split <;> omega
  show (if 100 < k then (g, [-1]) else
      if pointRow g < sLow g (sTop g c k) then answers { toRow { g with top := sTop g c k } (sLow g (sTop g c k)) with top := sTop g c k }
      else if sUp g (sTop g c k) < pointRow g then answers { toRow { g with top := sTop g c k } (sUp g (sTop g c k)) with top := sTop g c k } else answers { g with top := sTop g c k }) = _
  rw [if_neg (by omega)]
  generalize sTop g c k = t at ht hf hlu
  have hend : ∀ i, i < rowCount g → { toRow { g with top := t } i with top := t } = putAt { g with top := t } i := fun i hi => by
    rw [toRow_eq (g := { g with top := t }) hi]
    exact top_back _ (putAt_top _ _)
  unfold sEnd
  by_cases c1 : pointRow g < sLow g t
  · have e : sFree g t = sLow g t := by unfold sFree; omega
    rw [if_pos c1, e, if_neg (by omega), hend _ (by rw [← e]; exact hf)]
  · rw [if_neg c1]
    by_cases c2 : sUp g t < pointRow g
    · have e : sFree g t = sUp g t := by unfold sFree; omega
      rw [if_pos c2, e, if_neg (by omega), hend _ (by rw [← e]; exact hf)]
    · have e : sFree g t = pointRow g := by unfold sFree; omega
      rw [if_neg c2, if_pos e]
/-! up, down -/
theorem up_wf (W : WF0 g) {i : Nat} (hi : i < rowCount g) : WF (scrolled (putAt g i)) := (W.put hi).1.scrolled
/-! ### fold -/
theorem nests_hides {f : Fold} {a b n : Nat} (hn : nests f (a, b) = true) (h1 : hides (a, b) n = true) (h2 : hides f n = false) : hides f a = false := by
  have h1 := hides_iff.mp h1
  cases e : hides f a with
  | false => rfl
  | true =>
    have h3 := hides_iff.mp e
    have h4 : ¬ (f.1 < n ∧ n < f.2) := fun z => by rw [hides_iff.mpr z] at h2; cases h2
    unfold nests at hn
    simp only [Bool.or_eq_true, Bool.and_eq_true, decide_eq_true_eq] at hn
    simp only at h1
    omega
theorem fold_point (W : WF0 g) {a b : Nat} {ys : List Fold} (hab : a + 2 ≤ b) (hb : b ≤ g.lines.length) (h12 : g.folds.length < 12) (hn : ∀ f ∈ g.folds, nests f (a, b) = true) (hp : ys.Perm (g.folds ++ [(a, b)])) (hs : ys.Pairwise (fun x y => y.1 ≤ x.1)) :
    settled { g with folds := g.folds ++ [(a, b)], wish := none } = scrolled { g with folds := g.folds ++ [(a, b)], wish := none, line := (bpo g.lines ys (g.line, g.place)).1, place := (bpo g.lines ys (g.line, g.place)).2 } ∧
      WF0 { g with folds := g.folds ++ [(a, b)], wish := none, line := (bpo g.lines ys (g.line, g.place)).1, place := (bpo g.lines ys (g.line, g.place)).2 } := by
  have h0 := hidden_false.mp W.sn
  have hle := bpo_le g.lines ys (g.line, g.place)
  obtain ⟨e1, e2⟩ := bpo_line g.lines hp hs g.line g.place
  have e3 : (bpo g.lines ys (g.line, g.place)).2 = min g.place (lineAt g (bpo g.lines ys (g.line, g.place)).1).length := by
    cases c : hides (a, b) g.line with
    | true =>
      have hm : (a, b) ∈ ys := hp.mem_iff.mpr (by simp)
      have e := bpo_one (ls := g.lines) (x := (g.line, g.place)) (y := (a, b)) c hm fun f hf => by
        rcases List.mem_append.mp (hp.mem_iff.mp hf) with h | h
        · exact .inr ⟨h0 f h, nests_hides (hn f h) c (h0 f h)⟩
        · exact .inl (List.mem_singleton.mp h)
      rw [e]
      rfl
    | false =>
      have e := bpo_none (ls := g.lines) (x := (g.line, g.place)) (fs := ys) fun f hf => by
        rcases List.mem_append.mp (hp.mem_iff.mp hf) with h | h
        · exact h0 f h
        · rw [List.mem_singleton.mp h]; exact c
      rw [e]
      have := W.pc
      show g.place = min g.place (lineAt g g.line).length
      omega
  generalize bpo g.lines ys (g.line, g.place) = r at hle e1 e2 e3
  have hr : r.1 ≤ g.line := hle.1
  refine ⟨?_, ⟨W.lk, W.n1, W.n2, W.ln, ?_, e2, ?_, ?_, ?_, W.h1, W.h2⟩⟩
  · have hn' : min g.line (g.lines.length - 1) = g.line := by have := W.pl; omega
    show scrolled { g with folds := g.folds ++ [(a, b)], wish := none, line := seenFor ((g.folds ++ [(a, b)]).length + 1) (g.folds ++ [(a, b)]) (min g.line (g.lines.length - 1)), place := min g.place (lineAt g (seenFor ((g.folds ++ [(a, b)]).length + 1) (g.folds ++ [(a, b)]) (min g.line (g.lines.length - 1)))).length } = _
    rw [hn', ← e1, ← e3]
  · show r.1 < g.lines.length
    have := W.pl
    omega
  · show r.2 ≤ (lineAt g r.1).length
    omega
  · show (g.folds ++ [(a, b)]).length ≤ 12
    rw [List.length_append]
    simp
    omega
  · intro f hf
    rcases List.mem_append.mp hf with h | h
    · exact W.fw f h
    · rw [List.mem_singleton.mp h]
      show a ≤ b
      omega
/-! ### edit -/
def faeM (a b n : Nat) (f : Fold) : Option Fold := if f.2 ≤ a then some f else if b ≤ f.1 then some (f.1 + n - (b - a), f.2 + n - (b - a)) else if f.1 < a ∧ b ≤ f.2 ∧ a < f.2 then (if f.2 + n - (b - a) ≤ f.1 + 1 then none else some (f.1, f.2 + n - (b - a))) else none
theorem mem_once {l : List Fold} {x : Fold} (h : x ∈ once l) : x ∈ l := by
  have : ∀ (l acc : List Fold), x ∈ l.foldl (fun m f => if m.contains f = true then m else m ++ [f]) acc → x ∈ acc ∨ x ∈ l := by
    intro l
    induction l with
    | nil => intro acc h; exact .inl h
    | cons y l ih =>
      intro acc h
      rw [List.foldl_cons] at h
      rcases ih _ h with h | h
      · split at h
        · exact .inl h
        · rcases List.mem_append.mp h with h | h
          · exact .inl h
          · rw [List.mem_singleton] at h
            exact .inr (by rw [h]; exact List.mem_cons_self ..)
      · exact .inr (List.mem_cons_of_mem _ h)
  rcases this l [] h with h | h
  · cases h
  · exact h
theorem mem_behind {l : List Fold} {a b n : Nat} {f : Fold} (h : f ∈ foldsBehind l a b n) : ∃ f0 ∈ l, faeM a b n f0 = some f := List.mem_filterMap.mp (mem_once h)
theorem faeM_cases {a b n : Nat} {f f0 : Fold} (h : faeM a b n f0 = some f) : (f0.2 ≤ a ∧ f = f0) ∨ (a < f0.2 ∧ b ≤ f0.1 ∧ f = (f0.1 + n - (b - a), f0.2 + n - (b - a))) ∨ (f0.1 < a ∧ b ≤ f0.2 ∧ a < f0.2 ∧ f0.1 + 1 < f0.2 + n - (b - a) ∧ f = (f0.1, f0.2 + n - (b - a))) := by
  unfold faeM at h
  split at h
  · cases h; exact .inl ⟨by assumption, rfl⟩
  · split at h
    · cases h; exact .inr (.inl ⟨by omega, by assumption, rfl⟩)
    · split at h
      · split at h
        · cases h
        · cases h
          rename_i c _
          exact .inr (.inr ⟨c.1, c.2.1, c.2.2, by omega, rfl⟩)
      · cases h
theorem behind_wf {l : List Fold} {a b n : Nat} (hab : a ≤ b) (hw : ∀ f ∈ l, f.1 ≤ f.2) : ∀ f ∈ foldsBehind l a b n, f.1 ≤ f.2 := fun f hf => by
  obtain ⟨f0, h0, e⟩ := mem_behind hf
  have hw0 := hw f0 h0
  rcases faeM_cases e with ⟨_, rfl⟩ | ⟨_, h1, rfl⟩ | ⟨_, _, _, h1, rfl⟩
  · exact hw0
  · show f0.1 + n - (b - a) ≤ f0.2 + n - (b - a)
    omega
  · show f0.1 ≤ f0.2 + n - (b - a)
    omega
theorem behind_ahead {l : List Fold} {a b n p : Nat} (hab : a ≤ b) (hp : p < a) (h : hidden l p = false) : hidden (foldsBehind l a b n) p = false := hidden_false.mpr fun f hf => by
  obtain ⟨f0, h0, e⟩ := mem_behind hf
  have h1 := hidden_false.mp h f0 h0
  have h2 : ¬ (f0.1 < p ∧ p < f0.2) := fun z => by rw [hides_iff.mpr z] at h1; cases h1
  cases q : hides f p with
  | false => rfl
  | true =>
    have h3 := hides_iff.mp q
    rcases faeM_cases e with ⟨_, rfl⟩ | ⟨_, h4, rfl⟩ | ⟨_, _, _, _, rfl⟩
    · exact absurd h3 h2
    · simp only at h3
      omega
    · simp only at h3
      omega
theorem behind_past {l : List Fold} {a b n p : Nat} (hab : a ≤ b) (hp : b ≤ p) (h : hidden l p = false) : hidden (foldsBehind l a b n) (p + n - (b - a)) = false := hidden_false.mpr fun f hf => by
  obtain ⟨f0, h0, e⟩ := mem_behind hf
  have h1 := hidden_false.mp h f0 h0
  have h2 : ¬ (f0.1 < p ∧ p < f0.2) := fun z => by rw [hides_iff.mpr z] at h1; cases h1
  cases q : hides f (p + n - (b - a)) with
  | false => rfl
  | true =>
    have h3 := hides_iff.mp q
    rcases faeM_cases e with ⟨_, rfl⟩ | ⟨_, h4, rfl⟩ | ⟨_, _, _, _, rfl⟩
    · omega
    · simp only at h3
      omega
    · simp only at h3
      omega
/-- the lines behind a change -/
def linesE (ls : List Bytes) (a b : Nat) (l : List Bytes) : List Bytes := ls.take a ++ (l ++ ls.drop b)
theorem linesE_len {ls l : List Bytes} {a b : Nat} (hab : a ≤ b) (hb : b ≤ ls.length) : (linesE ls a b l).length = ls.length + l.length - (b - a) := by
  unfold linesE
  rw [List.length_append, List.length_append, List.length_take, List.length_drop]
  omega
theorem linesE_ahead {ls l : List Bytes} {a b p : Nat} (hp : p < a) (ha : a ≤ ls.length) : (linesE ls a b l).getD p [] = ls.getD p [] := by
  unfold linesE
  rw [List.getD_eq_getElem?_getD, List.getD_eq_getElem?_getD, List.getElem?_append_left (by rw [List.length_take]; omega), List.getElem?_take_of_lt hp]
theorem linesE_past {ls l : List Bytes} {a b p : Nat} (hab : a ≤ b) (hb : b ≤ ls.length) (hp : b ≤ p) : (linesE ls a b l).getD (p + l.length - (b - a)) [] = ls.getD p [] := by
  unfold linesE
  rw [List.getD_eq_getElem?_getD, List.getD_eq_getElem?_getD, List.getElem?_append_right (by rw [List.length_take]; omega), List.length_take, List.getElem?_append_right (by omega), List.getElem?_drop]
  congr 2
  omega
theorem isLines_len {l : List Bytes} (h : isLines l = true) : ∀ w ∈ l, w.length ≤ 120 := fun w hw => by
  have := List.all_eq_true.mp h w hw
  rw [Bool.and_eq_true] at this
  exact of_decide_eq_true this.1
/-- where the point goes -/
def eP (g : St) (a b : Nat) (l : List Bytes) (ys : List Fold) : Nat × Nat := if b ≤ g.line then (g.line + l.length - (b - a), g.place) else if a ≤ g.line then bpo (linesE g.lines a b l) ys (min a ((linesE g.lines a b l).length - 1), 0) else (g.line, g.place)
def eSt (g : St) (a b : Nat) (l : List Bytes) (p : Nat × Nat) : St := { g with lines := linesE g.lines a b l, folds := foldsBehind g.folds a b l.length, wish := none, line := p.1, place := p.2 }
theorem once_len' (l : List Fold) : (once l).length ≤ l.length := by
  have : ∀ (l acc : List Fold), (l.foldl (fun m f => if m.contains f = true then m else m ++ [f]) acc).length ≤ acc.length + l.length := by
    intro l
    induction l with
    | nil => intro acc; simp
    | cons x l ih =>
      intro acc
      rw [List.foldl_cons]
      refine Nat.le_trans (ih _) ?_
      split
      · rw [List.length_cons]; omega
      · rw [List.length_append, List.length_cons, List.length_cons]; simp; omega
  have h := this l []
  rw [List.length_nil, Nat.zero_add] at h
  exact h
theorem edit_point (W : WF0 g) {a b : Nat} {l : List Bytes} {ys : List Fold} (hab : a ≤ b) (hb : b ≤ g.lines.length) (hl : isLines l = true) (h1 : 1 ≤ g.lines.length + l.length - (b - a)) (h30 : g.lines.length + l.length - (b - a) ≤ 30)
    (hp : ys.Perm (foldsBehind g.folds a b l.length)) (hs : ys.Pairwise (fun x y => y.1 ≤ x.1)) :
    settled { g with lines := g.lines.take a ++ (l ++ g.lines.drop b), folds := foldsBehind g.folds a b l.length, line := (if g.line < a then g.line else if b ≤ g.line then g.line + l.length - (b - a) else a), place := (if a ≤ g.line ∧ g.line < b then 0 else g.place), wish := none } = scrolled (eSt g a b l (eP g a b l ys)) ∧
      WF0 (eSt g a b l (eP g a b l ys)) := by
  have hlen := linesE_len (l := l) hab hb
  have hpl := W.pl
  have hlens : ∀ w ∈ linesE g.lines a b l, w.length ≤ 120 := fun w hw => by
    unfold linesE at hw
    rcases List.mem_append.mp hw with h | h
    · exact W.ln w (List.mem_of_mem_take h)
    · rcases List.mem_append.mp h with h | h
      · exact isLines_len hl w h
      · exact W.ln w (List.mem_of_mem_drop h)
  have hfl : (foldsBehind g.folds a b l.length).length ≤ 12 := Nat.le_trans (Nat.le_trans (once_len' _) (List.length_filterMap_le _ _)) W.fl
  have mk : ∀ p : Nat × Nat, p.1 < (linesE g.lines a b l).length → hidden (foldsBehind g.folds a b l.length) p.1 = false → p.2 ≤ ((linesE g.lines a b l).getD p.1 []).length → WF0 (eSt g a b l p) := fun p q1 q2 q3 =>
    ⟨W.lk, by show 1 ≤ (linesE g.lines a b l).length; omega, by show (linesE g.lines a b l).length ≤ 30; omega, hlens, q1, q2, q3, hfl, behind_wf hab W.fw, W.h1, W.h2⟩
  have set' : ∀ (ln pc : Nat) (p : Nat × Nat), p.1 = seenFor ((foldsBehind g.folds a b l.length).length + 1) (foldsBehind g.folds a b l.length) (min ln ((linesE g.lines a b l).length - 1)) → p.2 = min pc ((linesE g.lines a b l).getD p.1 []).length →
      settled { g with lines := linesE g.lines a b l, folds := foldsBehind g.folds a b l.length, line := ln, place := pc, wish := none } = scrolled (eSt g a b l p) := fun ln pc p q1 q2 => by
    show scrolled { g with lines := linesE g.lines a b l, folds := foldsBehind g.folds a b l.length, wish := none, line := seenFor ((foldsBehind g.folds a b l.length).length + 1) (foldsBehind g.folds a b l.length) (min ln ((linesE g.lines a b l).length - 1)), place := min pc ((linesE g.lines a b l).getD (seenFor ((foldsBehind g.folds a b l.length).length + 1) (foldsBehind g.folds a b l.length) (min ln ((linesE g.lines a b l).length - 1))) []).length } = _
    rw [← q1, ← q2]
    rfl
  show settled { g with lines := linesE g.lines a b l, folds := foldsBehind g.folds a b l.length, line := (if g.line < a then g.line else if b ≤ g.line then g.line + l.length - (b - a) else a), place := (if a ≤ g.line ∧ g.line < b then 0 else g.place), wish := none } = _ ∧ _
  unfold eP
  by_cases c1 : b ≤ g.line
  · rw [if_neg (show ¬ g.line < a by omega), if_pos c1, if_neg (show ¬ (a ≤ g.line ∧ g.line < b) by omega), if_pos c1]
    have hh := behind_past (n := l.length) hab c1 W.sn
    have hg := linesE_past (l := l) hab hb c1
    have hlt : g.line + l.length - (b - a) < (linesE g.lines a b l).length := by omega
    have hpc : g.place ≤ ((linesE g.lines a b l).getD (g.line + l.length - (b - a)) []).length := by rw [hg]; exact W.pc
    refine ⟨set' _ _ (g.line + l.length - (b - a), g.place) ?_ ?_, mk _ hlt hh hpc⟩
    · rw [show min (g.line + l.length - (b - a)) ((linesE g.lines a b l).length - 1) = g.line + l.length - (b - a) by omega, seenFor_self hh]
    · show g.place = min g.place ((linesE g.lines a b l).getD (g.line + l.length - (b - a)) []).length
      omega
  · by_cases c2 : a ≤ g.line
    · rw [if_neg (show ¬ g.line < a by omega), if_neg c1, if_pos (show a ≤ g.line ∧ g.line < b by omega), if_neg c1, if_pos c2]
      obtain ⟨e1, e2⟩ := bpo_line (linesE g.lines a b l) hp hs (min a ((linesE g.lines a b l).length - 1)) 0
      have hle := bpo_le (linesE g.lines a b l) ys (min a ((linesE g.lines a b l).length - 1), 0)
      generalize bpo (linesE g.lines a b l) ys (min a ((linesE g.lines a b l).length - 1), 0) = r at e1 e2 hle
      have hr1 : r.1 ≤ min a ((linesE g.lines a b l).length - 1) := hle.1
      have hr2 : r.2 ≤ 0 := hle.2
      refine ⟨set' a 0 r e1 (by omega), mk r (by omega) e2 (by omega)⟩
    · rw [if_pos (show g.line < a by omega), if_neg (show ¬ (a ≤ g.line ∧ g.line < b) by omega), if_neg c1, if_neg c2]
      have hh := behind_ahead (n := l.length) hab (show g.line < a by omega) W.sn
      have hg := linesE_ahead (l := l) (b := b) (show g.line < a by omega) (show a ≤ g.lines.length by omega)
      have hlt : g.line < (linesE g.lines a b l).length := by omega
      have hpc : g.place ≤ ((linesE g.lines a b l).getD g.line []).length := by rw [hg]; exact W.pc
      refine ⟨set' _ _ (g.line, g.place) ?_ ?_, mk _ hlt hh hpc⟩
      · rw [show min g.line ((linesE g.lines a b l).length - 1) = g.line by omega, seenFor_self hh]
      · show g.place = min g.place ((linesE g.lines a b l).getD g.line []).length
        omega
end FV
/-! the text of the program by places (printed by gen_head.py) -/
namespace FV
open PySem PySem.Spec PyProof.Rows L2
def top (i : Nat) : Stmt := PySem.Challenge.pw_foldview_s01_answers.main.body.getD i (.Pass ⟨0, 0, 0, 0⟩)
abbrev s_hides : Stmt := top 1
abbrev s_has_line : Stmt := top 2
abbrev s_is_hidden : Stmt := top 3
abbrev s_is_within : Stmt := top 4
abbrev s_is_apart : Stmt := top 5
abbrev s_clashes : Stmt := top 6
abbrev s_fold_after_edit : Stmt := top 7
abbrev s_folds_after_edit : Stmt := top 8
abbrev s_column_behind : Stmt := top 14
abbrev s_column_after : Stmt := top 15
abbrev s_blanks_end : Stmt := top 16
abbrev s_inset_of : Stmt := top 17
abbrev s_fitting_end : Stmt := top 18
abbrev s_last_blank_end : Stmt := top 19
abbrev s_row_end : Stmt := top 20
abbrev s_line_rows : Stmt := top 21
abbrev s_place_column : Stmt := top 22
abbrev s_place_for : Stmt := top 23
abbrev s_seen_lines : Stmt := top 26
abbrev s_seen_rows : Stmt := top 27
abbrev s_row_number : Stmt := top 28
abbrev s_place_answer : Stmt := top 29
abbrev s_point_answer : Stmt := top 30
abbrev s_row_place : Stmt := top 31
abbrev s_real_margin : Stmt := top 32
abbrev s_last_top : Stmt := top 33
abbrev s_scrolled : Stmt := top 34
abbrev s_unwished : Stmt := top 35
abbrev s_put_into : Stmt := top 36
abbrev s_bring_point_out : Stmt := top 37
abbrev s_refused : Stmt := top 49
abbrev s_call_look : Stmt := top 50
abbrev s_call_window : Stmt := top 51
abbrev s_split_lines : Stmt := top 52
abbrev s_is_line : Stmt := top 53
abbrev s_are_lines : Stmt := top 54
abbrev s_call_text : Stmt := top 55
abbrev s_move_point_by_edit : Stmt := top 56
abbrev s_call_edit : Stmt := top 57
abbrev s_call_fold : Stmt := top 58
abbrev s_call_unfold : Stmt := top 59
abbrev s_is_place : Stmt := top 60
abbrev s_call_goto : Stmt := top 61
abbrev s_go_rows_on : Stmt := top 62
abbrev s_call_up : Stmt := top 63
abbrev s_call_down : Stmt := top 64
abbrev s_step_left : Stmt := top 65
abbrev s_step_right : Stmt := top 66
abbrev s_call_left : Stmt := top 67
abbrev s_call_right : Stmt := top 68
abbrev s_scroll_top : Stmt := top 69
abbrev s_first_free_row : Stmt := top 70
abbrev s_last_free_row : Stmt := top 71
abbrev s_call_scroll : Stmt := top 72
abbrev s_call_point : Stmt := top 73
abbrev s_call_shows : Stmt := top 74
abbrev s_call_rows : Stmt := top 75
abbrev s_call_at : Stmt := top 76
abbrev s_call_where : Stmt := top 77
abbrev s_answers : Stmt := top 79
abbrev s_initLook : Stmt := inClass (top 12) 0
abbrev s_initRow : Stmt := inClass (top 13) 0
abbrev s_initState : Stmt := inClass (top 25) 0
/-- a def as it stands behind the top -/
structure DefT (K : PySem.W.Frag) (mg : Str → Option Value) (x : Str) (st : Stmt) (ps : List Str) (f : Addr) (fd : FuncData) : Prop where
  F : Fun K x x st f fd
  g : mg x = some (.ref f)
  b : Binds K fd ps []
structure ClsT (K : PySem.W.Frag) (mg : Str → Option Value) (x q : Str) (st : Stmt) (ps : List Str) (C f : Addr) (fd : FuncData) : Prop where
  F : Fun K "__init__" q st f fd
  g : mg x = some (.ref C)
  b : Binds K fd ps []
  c : Cls K C
  m : Mk K C f
structure Ad where
  f_hides : Addr
  d_hides : FuncData
  f_has_line : Addr
  d_has_line : FuncData
  f_is_hidden : Addr
  d_is_hidden : FuncData
  f_is_within : Addr
  d_is_within : FuncData
  f_is_apart : Addr
  d_is_apart : FuncData
  f_clashes : Addr
  d_clashes : FuncData
  f_fold_after_edit : Addr
  d_fold_after_edit : FuncData
  f_folds_after_edit : Addr
  d_folds_after_edit : FuncData
  f_column_behind : Addr
  d_column_behind : FuncData
  f_column_after : Addr
  d_column_after : FuncData
  f_blanks_end : Addr
  d_blanks_end : FuncData
  f_inset_of : Addr
  d_inset_of : FuncData
  f_fitting_end : Addr
  d_fitting_end : FuncData
  f_last_blank_end : Addr
  d_last_blank_end : FuncData
  f_row_end : Addr
  d_row_end : FuncData
  f_line_rows : Addr
  d_line_rows : FuncData
  f_place_column : Addr
  d_place_column : FuncData
  f_place_for : Addr
  d_place_for : FuncData
  f_seen_lines : Addr
  d_seen_lines : FuncData
  f_seen_rows : Addr
  d_seen_rows : FuncData
  f_row_number : Addr
  d_row_number : FuncData
  f_place_answer : Addr
  d_place_answer : FuncData
  f_point_answer : Addr
  d_point_answer : FuncData
  f_row_place : Addr
  d_row_place : FuncData
  f_real_margin : Addr
  d_real_margin : FuncData
  f_last_top : Addr
  d_last_top : FuncData
  f_scrolled : Addr
  d_scrolled : FuncData
  f_unwished : Addr
  d_unwished : FuncData
  f_put_into : Addr
  d_put_into : FuncData
  f_bring_point_out : Addr
  d_bring_point_out : FuncData
  f_refused : Addr
  d_refused : FuncData
  f_call_look : Addr
  d_call_look : FuncData
  f_call_window : Addr
  d_call_window : FuncData
  f_split_lines : Addr
  d_split_lines : FuncData
  f_is_line : Addr
  d_is_line : FuncData
  f_are_lines : Addr
  d_are_lines : FuncData
  f_call_text : Addr
  d_call_text : FuncData
  f_move_point_by_edit : Addr
  d_move_point_by_edit : FuncData
  f_call_edit : Addr
  d_call_edit : FuncData
  f_call_fold : Addr
  d_call_fold : FuncData
  f_call_unfold : Addr
  d_call_unfold : FuncData
  f_is_place : Addr
  d_is_place : FuncData
  f_call_goto : Addr
  d_call_goto : FuncData
  f_go_rows_on : Addr
  d_go_rows_on : FuncData
  f_call_up : Addr
  d_call_up : FuncData
  f_call_down : Addr
  d_call_down : FuncData
  f_step_left : Addr
  d_step_left : FuncData
  f_step_right : Addr
  d_step_right : FuncData
  f_call_left : Addr
  d_call_left : FuncData
  f_call_right : Addr
  d_call_right : FuncData
  f_scroll_top : Addr
  d_scroll_top : FuncData
  f_first_free_row : Addr
  d_first_free_row : FuncData
  f_last_free_row : Addr
  d_last_free_row : FuncData
  f_call_scroll : Addr
  d_call_scroll : FuncData
  f_call_point : Addr
  d_call_point : FuncData
  f_call_shows : Addr
  d_call_shows : FuncData
  f_call_rows : Addr
  d_call_rows : FuncData
  f_call_at : Addr
  d_call_at : FuncData
  f_call_where : Addr
  d_call_where : FuncData
  f_answers : Addr
  d_answers : FuncData
  C_Look : Addr
  f_initLook : Addr
  d_initLook : FuncData
  C_Row : Addr
  f_initRow : Addr
  d_initRow : FuncData
  C_State : Addr
  f_initState : Addr
  d_initState : FuncData
  a_BLANKS : Addr
  a_CALLS : Addr
structure Tx (K : PySem.W.Frag) (mg : Str → Option Value) (A : Ad) : Prop where
  t_hides : DefT K mg "hides" s_hides ["fold", "line"] A.f_hides A.d_hides
  t_has_line : DefT K mg "has_line" s_has_line ["fold", "line"] A.f_has_line A.d_has_line
  t_is_hidden : DefT K mg "is_hidden" s_is_hidden ["folds", "line"] A.f_is_hidden A.d_is_hidden
  t_is_within : DefT K mg "is_within" s_is_within ["fold", "other"] A.f_is_within A.d_is_within
  t_is_apart : DefT K mg "is_apart" s_is_apart ["fold", "other"] A.f_is_apart A.d_is_apart
  t_clashes : DefT K mg "clashes" s_clashes ["fold", "other"] A.f_clashes A.d_clashes
  t_fold_after_edit : DefT K mg "fold_after_edit" s_fold_after_edit ["fold", "begin", "behind", "grown"] A.f_fold_after_edit A.d_fold_after_edit
  t_folds_after_edit : DefT K mg "folds_after_edit" s_folds_after_edit ["folds", "begin", "behind", "grown"] A.f_folds_after_edit A.d_folds_after_edit
  t_column_behind : DefT K mg "column_behind" s_column_behind ["look", "byte", "column"] A.f_column_behind A.d_column_behind
  t_column_after : DefT K mg "column_after" s_column_after ["look", "some", "column"] A.f_column_after A.d_column_after
  t_blanks_end : DefT K mg "blanks_end" s_blanks_end ["line", "begin"] A.f_blanks_end A.d_blanks_end
  t_inset_of : DefT K mg "inset_of" s_inset_of ["look", "line"] A.f_inset_of A.d_inset_of
  t_fitting_end : DefT K mg "fitting_end" s_fitting_end ["look", "line", "begin", "column"] A.f_fitting_end A.d_fitting_end
  t_last_blank_end : DefT K mg "last_blank_end" s_last_blank_end ["line", "begin", "behind"] A.f_last_blank_end A.d_last_blank_end
  t_row_end : DefT K mg "row_end" s_row_end ["look", "line", "begin", "column"] A.f_row_end A.d_row_end
  t_line_rows : DefT K mg "line_rows" s_line_rows ["look", "number", "line"] A.f_line_rows A.d_line_rows
  t_place_column : DefT K mg "place_column" s_place_column ["look", "line", "row", "place"] A.f_place_column A.d_place_column
  t_place_for : DefT K mg "place_for" s_place_for ["look", "line", "row", "column"] A.f_place_for A.d_place_for
  t_seen_lines : DefT K mg "seen_lines" s_seen_lines ["state"] A.f_seen_lines A.d_seen_lines
  t_seen_rows : DefT K mg "seen_rows" s_seen_rows ["state"] A.f_seen_rows A.d_seen_rows
  t_row_number : DefT K mg "row_number" s_row_number ["rows", "line", "place"] A.f_row_number A.d_row_number
  t_place_answer : DefT K mg "place_answer" s_place_answer ["state", "rows", "line", "place"] A.f_place_answer A.d_place_answer
  t_point_answer : DefT K mg "point_answer" s_point_answer ["state", "rows"] A.f_point_answer A.d_point_answer
  t_row_place : DefT K mg "row_place" s_row_place ["state", "row", "column"] A.f_row_place A.d_row_place
  t_real_margin : DefT K mg "real_margin" s_real_margin ["state"] A.f_real_margin A.d_real_margin
  t_last_top : DefT K mg "last_top" s_last_top ["state", "rows"] A.f_last_top A.d_last_top
  t_scrolled : DefT K mg "scrolled" s_scrolled ["state"] A.f_scrolled A.d_scrolled
  t_unwished : DefT K mg "unwished" s_unwished ["state"] A.f_unwished A.d_unwished
  t_put_into : DefT K mg "put_into" s_put_into ["state", "rows", "number"] A.f_put_into A.d_put_into
  t_bring_point_out : DefT K mg "bring_point_out" s_bring_point_out ["state"] A.f_bring_point_out A.d_bring_point_out
  t_refused : DefT K mg "refused" s_refused ["number"] A.f_refused A.d_refused
  t_call_look : DefT K mg "call_look" s_call_look ["state", "told"] A.f_call_look A.d_call_look
  t_call_window : DefT K mg "call_window" s_call_window ["state", "told"] A.f_call_window A.d_call_window
  t_split_lines : DefT K mg "split_lines" s_split_lines ["told"] A.f_split_lines A.d_split_lines
  t_is_line : DefT K mg "is_line" s_is_line ["line"] A.f_is_line A.d_is_line
  t_are_lines : DefT K mg "are_lines" s_are_lines ["lines"] A.f_are_lines A.d_are_lines
  t_call_text : DefT K mg "call_text" s_call_text ["state", "told"] A.f_call_text A.d_call_text
  t_move_point_by_edit : DefT K mg "move_point_by_edit" s_move_point_by_edit ["state", "begin", "behind", "grown"] A.f_move_point_by_edit A.d_move_point_by_edit
  t_call_edit : DefT K mg "call_edit" s_call_edit ["state", "told"] A.f_call_edit A.d_call_edit
  t_call_fold : DefT K mg "call_fold" s_call_fold ["state", "told"] A.f_call_fold A.d_call_fold
  t_call_unfold : DefT K mg "call_unfold" s_call_unfold ["state", "told"] A.f_call_unfold A.d_call_unfold
  t_is_place : DefT K mg "is_place" s_is_place ["state", "line", "place"] A.f_is_place A.d_is_place
  t_call_goto : DefT K mg "call_goto" s_call_goto ["state", "told"] A.f_call_goto A.d_call_goto
  t_go_rows_on : DefT K mg "go_rows_on" s_go_rows_on ["state", "count"] A.f_go_rows_on A.d_go_rows_on
  t_call_up : DefT K mg "call_up" s_call_up ["state", "told"] A.f_call_up A.d_call_up
  t_call_down : DefT K mg "call_down" s_call_down ["state", "told"] A.f_call_down A.d_call_down
  t_step_left : DefT K mg "step_left" s_step_left ["state", "seen"] A.f_step_left A.d_step_left
  t_step_right : DefT K mg "step_right" s_step_right ["state", "seen"] A.f_step_right A.d_step_right
  t_call_left : DefT K mg "call_left" s_call_left ["state", "told"] A.f_call_left A.d_call_left
  t_call_right : DefT K mg "call_right" s_call_right ["state", "told"] A.f_call_right A.d_call_right
  t_scroll_top : DefT K mg "scroll_top" s_scroll_top ["state", "rows", "back", "count"] A.f_scroll_top A.d_scroll_top
  t_first_free_row : DefT K mg "first_free_row" s_first_free_row ["state"] A.f_first_free_row A.d_first_free_row
  t_last_free_row : DefT K mg "last_free_row" s_last_free_row ["state", "rows"] A.f_last_free_row A.d_last_free_row
  t_call_scroll : DefT K mg "call_scroll" s_call_scroll ["state", "told"] A.f_call_scroll A.d_call_scroll
  t_call_point : DefT K mg "call_point" s_call_point ["state", "told"] A.f_call_point A.d_call_point
  t_call_shows : DefT K mg "call_shows" s_call_shows ["state", "told"] A.f_call_shows A.d_call_shows
  t_call_rows : DefT K mg "call_rows" s_call_rows ["state", "told"] A.f_call_rows A.d_call_rows
  t_call_at : DefT K mg "call_at" s_call_at ["state", "told"] A.f_call_at A.d_call_at
  t_call_where : DefT K mg "call_where" s_call_where ["state", "told"] A.f_call_where A.d_call_where
  t_answers : DefT K mg "answers" s_answers ["calls"] A.f_answers A.d_answers
  t_Look : ClsT K mg "Look" "Look.__init__" s_initLook ["self", "wide", "tab", "more", "hang", "words"] A.C_Look A.f_initLook A.d_initLook
  n_Look_wide : NoAttr K A.C_Look "wide"
  n_Look_tab : NoAttr K A.C_Look "tab"
  n_Look_more : NoAttr K A.C_Look "more"
  n_Look_hang : NoAttr K A.C_Look "hang"
  n_Look_words : NoAttr K A.C_Look "words"
  t_Row : ClsT K mg "Row" "Row.__init__" s_initRow ["self", "line", "begin", "behind", "column"] A.C_Row A.f_initRow A.d_initRow
  n_Row_line : NoAttr K A.C_Row "line"
  n_Row_begin : NoAttr K A.C_Row "begin"
  n_Row_behind : NoAttr K A.C_Row "behind"
  n_Row_column : NoAttr K A.C_Row "column"
  t_State : ClsT K mg "State" "State.__init__" s_initState ["self"] A.C_State A.f_initState A.d_initState
  n_State_look : NoAttr K A.C_State "look"
  n_State_lines : NoAttr K A.C_State "lines"
  n_State_folds : NoAttr K A.C_State "folds"
  n_State_line : NoAttr K A.C_State "line"
  n_State_place : NoAttr K A.C_State "place"
  n_State_wished : NoAttr K A.C_State "wished"
  n_State_high : NoAttr K A.C_State "high"
  n_State_margin : NoAttr K A.C_State "margin"
  n_State_top : NoAttr K A.C_State "top"
  v_TAB : ∃ t, mg "TAB" = some (.int 9 t)
  v_LINE_FEED : ∃ t, mg "LINE_FEED" = some (.int 10 t)
  v_MOST_LINES : ∃ t, mg "MOST_LINES" = some (.int 30 t)
  v_MOST_BYTES : ∃ t, mg "MOST_BYTES" = some (.int 120 t)
  v_MOST_FOLDS : ∃ t, mg "MOST_FOLDS" = some (.int 12 t)
  v_MOST_STEPS : ∃ t, mg "MOST_STEPS" = some (.int 100 t)
  v_WRONG : ∃ t, mg "WRONG" = some (.int 1 t)
  v_CLASH : ∃ t, mg "CLASH" = some (.int 4 t)
  v_FULL : ∃ t, mg "FULL" = some (.int 5 t)
  v_MISSING : ∃ t, mg "MISSING" = some (.int 6 t)
  v_OUTSIDE : ∃ t, mg "OUTSIDE" = some (.int 7 t)
  v_BLANKS : mg "BLANKS" = some (.ref A.a_BLANKS)
  v_CALLS : mg "CALLS" = some (.ref A.a_CALLS)
  q_BLANKS : ∀ H : Hp, SqT K H A.a_BLANKS [.int 9, .int 32]
  q_CALLS : ∀ H : Hp, SqT K H A.a_CALLS [.ref A.f_call_look, .ref A.f_call_window, .ref A.f_call_text, .ref A.f_call_edit, .ref A.f_call_fold, .ref A.f_call_unfold, .ref A.f_call_goto, .ref A.f_call_up, .ref A.f_call_down, .ref A.f_call_left, .ref A.f_call_right, .ref A.f_call_scroll, .ref A.f_call_point, .ref A.f_call_shows, .ref A.f_call_rows, .ref A.f_call_at, .ref A.f_call_where]
  z_len : mg "len" = none
  z_range : mg "range" = none
  z_min : mg "min" = none
  z_max : mg "max" = none
  z_sorted : mg "sorted" = none
  z_enumerate : mg "enumerate" = none
  z_all : mg "all" = none
end FV
namespace FV
open PySem PySem.Spec PyProof.Rows L2
/-- an attribute read, stored, changed: by values -/
def rFld (K : PySem.W.Frag) (f : Str) (x : V) (H : Hp) (Q : VK) : Prop := ∃ a C dx fs v, x = .ref a ∧ H a = some (.ins C dx fs) ∧ Cls K C ∧ NoAttr K C f ∧ fs.lookup f = some v ∧ Q v H
def rSt (K : PySem.W.Frag) (f : Str) (x y : V) (H : Hp) (R : Hp → Prop) : Prop := ∃ a C dx fs, x = .ref a ∧ H a = some (.ins C dx fs) ∧ Cls K C ∧ NoAttr K C f ∧ fs.length < 1000 ∧ R (upd H a (.ins C dx (putF f y fs)))
theorem tFld_eq (K : PySem.W.Frag) (ta : TE) (f : Str) : tFld K ta f = fun σ H Q => ta σ H fun x H1 => rFld K f x H1 Q := rfl
theorem sFld_eq (K : PySem.W.Frag) (ta tv : TE) (f : Str) : sFld K ta tv f = fun D σ H => tv σ H fun y H1 => ta σ H1 fun x H2 => rSt K f x y H2 (D.nx σ) := rfl
theorem lk_here {k : Str} {v : V} {r : List (Str × V)} : List.lookup k ((k, v) :: r) = some v := by
  have e : (k == k) = true := beq_self_eq_true k
  simp only [List.lookup, e]
theorem lk_past {k g : Str} {v : V} {r : List (Str × V)} (h : (k == g) = false) : List.lookup k ((g, v) :: r) = List.lookup k r := by
  simp only [List.lookup, h]
theorem put_here {f : Str} {v x : V} {r : List (Str × V)} : putF f v ((f, x) :: r) = (f, v) :: r := if_pos rfl
theorem put_past {f g : Str} {v x : V} {r : List (Str × V)} (h : ¬ g = f) : putF f v ((g, x) :: r) = (g, x) :: putF f v r := if_neg h
def b01 (b : Bool) : Int := if b then 1 else 0
def vOpt : Option Nat → V
  | none => .non
  | some n => .int n
def lkF (k : Ue07.Look) : List (Str × V) := [("wide", .int k.wide), ("tab", .int k.tab), ("more", .int k.more), ("hang", .int (b01 k.hang)), ("words", .int (b01 k.words))]
theorem look_Look_wide (k : Ue07.Look) : (lkF k).lookup ("wide" : Str) = some (.int k.wide) := lk_here
theorem look_Look_tab (k : Ue07.Look) : (lkF k).lookup ("tab" : Str) = some (.int k.tab) := (lk_past (by decide +kernel)).trans (lk_here)
theorem look_Look_more (k : Ue07.Look) : (lkF k).lookup ("more" : Str) = some (.int k.more) := (lk_past (by decide +kernel)).trans ((lk_past (by decide +kernel)).trans (lk_here))
theorem look_Look_hang (k : Ue07.Look) : (lkF k).lookup ("hang" : Str) = some (.int (b01 k.hang)) := (lk_past (by decide +kernel)).trans ((lk_past (by decide +kernel)).trans ((lk_past (by decide +kernel)).trans (lk_here)))
theorem look_Look_words (k : Ue07.Look) : (lkF k).lookup ("words" : Str) = some (.int (b01 k.words)) := (lk_past (by decide +kernel)).trans ((lk_past (by decide +kernel)).trans ((lk_past (by decide +kernel)).trans ((lk_past (by decide +kernel)).trans (lk_here))))
def rwF (x : Nat × Ue07.Row) : List (Str × V) := [("line", .int x.1), ("begin", .int x.2.a), ("behind", .int x.2.b), ("column", .int x.2.col)]
theorem look_Row_line (x : Nat × Ue07.Row) : (rwF x).lookup ("line" : Str) = some (.int x.1) := lk_here
theorem look_Row_begin (x : Nat × Ue07.Row) : (rwF x).lookup ("begin" : Str) = some (.int x.2.a) := (lk_past (by decide +kernel)).trans (lk_here)
theorem look_Row_behind (x : Nat × Ue07.Row) : (rwF x).lookup ("behind" : Str) = some (.int x.2.b) := (lk_past (by decide +kernel)).trans ((lk_past (by decide +kernel)).trans (lk_here))
theorem look_Row_column (x : Nat × Ue07.Row) : (rwF x).lookup ("column" : Str) = some (.int x.2.col) := (lk_past (by decide +kernel)).trans ((lk_past (by decide +kernel)).trans ((lk_past (by decide +kernel)).trans (lk_here)))
def sF (lk L F : Addr) (g : Ue07.St) : List (Str × V) := [("look", .ref lk), ("lines", .ref L), ("folds", .ref F), ("line", .int g.line), ("place", .int g.place), ("wished", vOpt g.wish), ("high", .int g.high), ("margin", .int g.margin), ("top", .int g.top)]
theorem look_State_look (lk L F : Addr) (g : Ue07.St) : (sF lk L F g).lookup ("look" : Str) = some (.ref lk) := lk_here
theorem look_State_lines (lk L F : Addr) (g : Ue07.St) : (sF lk L F g).lookup ("lines" : Str) = some (.ref L) := (lk_past (by decide +kernel)).trans (lk_here)
theorem look_State_folds (lk L F : Addr) (g : Ue07.St) : (sF lk L F g).lookup ("folds" : Str) = some (.ref F) := (lk_past (by decide +kernel)).trans ((lk_past (by decide +kernel)).trans (lk_here))
theorem look_State_line (lk L F : Addr) (g : Ue07.St) : (sF lk L F g).lookup ("line" : Str) = some (.int g.line) := (lk_past (by decide +kernel)).trans ((lk_past (by decide +kernel)).trans ((lk_past (by decide +kernel)).trans (lk_here)))
theorem look_State_place (lk L F : Addr) (g : Ue07.St) : (sF lk L F g).lookup ("place" : Str) = some (.int g.place) := (lk_past (by decide +kernel)).trans ((lk_past (by decide +kernel)).trans ((lk_past (by decide +kernel)).trans ((lk_past (by decide +kernel)).trans (lk_here))))
theorem look_State_wished (lk L F : Addr) (g : Ue07.St) : (sF lk L F g).lookup ("wished" : Str) = some (vOpt g.wish) := (lk_past (by decide +kernel)).trans ((lk_past (by decide +kernel)).trans ((lk_past (by decide +kernel)).trans ((lk_past (by decide +kernel)).trans ((lk_past (by decide +kernel)).trans (lk_here)))))
theorem look_State_high (lk L F : Addr) (g : Ue07.St) : (sF lk L F g).lookup ("high" : Str) = some (.int g.high) := (lk_past (by decide +kernel)).trans ((lk_past (by decide +kernel)).trans ((lk_past (by decide +kernel)).trans ((lk_past (by decide +kernel)).trans ((lk_past (by decide +kernel)).trans ((lk_past (by decide +kernel)).trans (lk_here))))))
theorem look_State_margin (lk L F : Addr) (g : Ue07.St) : (sF lk L F g).lookup ("margin" : Str) = some (.int g.margin) := (lk_past (by decide +kernel)).trans ((lk_past (by decide +kernel)).trans ((lk_past (by decide +kernel)).trans ((lk_past (by decide +kernel)).trans ((lk_past (by decide +kernel)).trans ((lk_past (by decide +kernel)).trans ((lk_past (by decide +kernel)).trans (lk_here)))))))
theorem look_State_top (lk L F : Addr) (g : Ue07.St) : (sF lk L F g).lookup ("top" : Str) = some (.int g.top) := (lk_past (by decide +kernel)).trans ((lk_past (by decide +kernel)).trans ((lk_past (by decide +kernel)).trans ((lk_past (by decide +kernel)).trans ((lk_past (by decide +kernel)).trans ((lk_past (by decide +kernel)).trans ((lk_past (by decide +kernel)).trans ((lk_past (by decide +kernel)).trans (lk_here))))))))
theorem put_State_look (lk L F : Addr) (g : Ue07.St) (n : Addr) : putF "look" (.ref n) (sF lk L F g) = sF n L F g := put_here
theorem put_State_lines (lk L F : Addr) (g : Ue07.St) (n : Addr) : putF "lines" (.ref n) (sF lk L F g) = sF lk n F g := (put_past (by decide +kernel)).trans (congrArg _ (put_here))
theorem put_State_folds (lk L F : Addr) (g : Ue07.St) (n : Addr) : putF "folds" (.ref n) (sF lk L F g) = sF lk L n g := (put_past (by decide +kernel)).trans (congrArg _ ((put_past (by decide +kernel)).trans (congrArg _ (put_here))))
theorem put_State_line (lk L F : Addr) (g : Ue07.St) (n : Nat) : putF "line" (.int n) (sF lk L F g) = sF lk L F { g with line := n } := (put_past (by decide +kernel)).trans (congrArg _ ((put_past (by decide +kernel)).trans (congrArg _ ((put_past (by decide +kernel)).trans (congrArg _ (put_here))))))
theorem put_State_place (lk L F : Addr) (g : Ue07.St) (n : Nat) : putF "place" (.int n) (sF lk L F g) = sF lk L F { g with place := n } := (put_past (by decide +kernel)).trans (congrArg _ ((put_past (by decide +kernel)).trans (congrArg _ ((put_past (by decide +kernel)).trans (congrArg _ ((put_past (by decide +kernel)).trans (congrArg _ (put_here))))))))
theorem put_State_wished (lk L F : Addr) (g : Ue07.St) (n : Option Nat) : putF "wished" (vOpt n) (sF lk L F g) = sF lk L F { g with wish := n } := (put_past (by decide +kernel)).trans (congrArg _ ((put_past (by decide +kernel)).trans (congrArg _ ((put_past (by decide +kernel)).trans (congrArg _ ((put_past (by decide +kernel)).trans (congrArg _ ((put_past (by decide +kernel)).trans (congrArg _ (put_here))))))))))
theorem put_State_high (lk L F : Addr) (g : Ue07.St) (n : Nat) : putF "high" (.int n) (sF lk L F g) = sF lk L F { g with high := n } := (put_past (by decide +kernel)).trans (congrArg _ ((put_past (by decide +kernel)).trans (congrArg _ ((put_past (by decide +kernel)).trans (congrArg _ ((put_past (by decide +kernel)).trans (congrArg _ ((put_past (by decide +kernel)).trans (congrArg _ ((put_past (by decide +kernel)).trans (congrArg _ (put_here))))))))))))
theorem put_State_margin (lk L F : Addr) (g : Ue07.St) (n : Nat) : putF "margin" (.int n) (sF lk L F g) = sF lk L F { g with margin := n } := (put_past (by decide +kernel)).trans (congrArg _ ((put_past (by decide +kernel)).trans (congrArg _ ((put_past (by decide +kernel)).trans (congrArg _ ((put_past (by decide +kernel)).trans (congrArg _ ((put_past (by decide +kernel)).trans (congrArg _ ((put_past (by decide +kernel)).trans (congrArg _ ((put_past (by decide +kernel)).trans (congrArg _ (put_here))))))))))))))
theorem put_State_top (lk L F : Addr) (g : Ue07.St) (n : Nat) : putF "top" (.int n) (sF lk L F g) = sF lk L F { g with top := n } := (put_past (by decide +kernel)).trans (congrArg _ ((put_past (by decide +kernel)).trans (congrArg _ ((put_past (by decide +kernel)).trans (congrArg _ ((put_past (by decide +kernel)).trans (congrArg _ ((put_past (by decide +kernel)).trans (congrArg _ ((put_past (by decide +kernel)).trans (congrArg _ ((put_past (by decide +kernel)).trans (congrArg _ ((put_past (by decide +kernel)).trans (congrArg _ (put_here))))))))))))))))
theorem new_Look (v0 v1 v2 v3 v4 : V) : putF "words" v4 (putF "hang" v3 (putF "more" v2 (putF "tab" v1 (putF "wide" v0 [])))) = ([("wide", v0), ("tab", v1), ("more", v2), ("hang", v3), ("words", v4)] : List (Str × V)) := by
  have e0 : putF "wide" v0 [] = ([("wide", v0)] : List (Str × V)) := rfl
  have e1 : putF "tab" v1 ([("wide", v0)] : List (Str × V)) = ([("wide", v0), ("tab", v1)] : List (Str × V)) := (put_past (by decide +kernel)).trans (congrArg _ (rfl))
  have e2 : putF "more" v2 ([("wide", v0), ("tab", v1)] : List (Str × V)) = ([("wide", v0), ("tab", v1), ("more", v2)] : List (Str × V)) := (put_past (by decide +kernel)).trans (congrArg _ ((put_past (by decide +kernel)).trans (congrArg _ (rfl))))
  have e3 : putF "hang" v3 ([("wide", v0), ("tab", v1), ("more", v2)] : List (Str × V)) = ([("wide", v0), ("tab", v1), ("more", v2), ("hang", v3)] : List (Str × V)) := (put_past (by decide +kernel)).trans (congrArg _ ((put_past (by decide +kernel)).trans (congrArg _ ((put_past (by decide +kernel)).trans (congrArg _ (rfl))))))
  have e4 : putF "words" v4 ([("wide", v0), ("tab", v1), ("more", v2), ("hang", v3)] : List (Str × V)) = ([("wide", v0), ("tab", v1), ("more", v2), ("hang", v3), ("words", v4)] : List (Str × V)) := (put_past (by decide +kernel)).trans (congrArg _ ((put_past (by decide +kernel)).trans (congrArg _ ((put_past (by decide +kernel)).trans (congrArg _ ((put_past (by decide +kernel)).trans (congrArg _ (rfl))))))))
  rw [e0, e1, e2, e3, e4]
theorem new_Row (v0 v1 v2 v3 : V) : putF "column" v3 (putF "behind" v2 (putF "begin" v1 (putF "line" v0 []))) = ([("line", v0), ("begin", v1), ("behind", v2), ("column", v3)] : List (Str × V)) := by
  have e0 : putF "line" v0 [] = ([("line", v0)] : List (Str × V)) := rfl
  have e1 : putF "begin" v1 ([("line", v0)] : List (Str × V)) = ([("line", v0), ("begin", v1)] : List (Str × V)) := (put_past (by decide +kernel)).trans (congrArg _ (rfl))
  have e2 : putF "behind" v2 ([("line", v0), ("begin", v1)] : List (Str × V)) = ([("line", v0), ("begin", v1), ("behind", v2)] : List (Str × V)) := (put_past (by decide +kernel)).trans (congrArg _ ((put_past (by decide +kernel)).trans (congrArg _ (rfl))))
  have e3 : putF "column" v3 ([("line", v0), ("begin", v1), ("behind", v2)] : List (Str × V)) = ([("line", v0), ("begin", v1), ("behind", v2), ("column", v3)] : List (Str × V)) := (put_past (by decide +kernel)).trans (congrArg _ ((put_past (by decide +kernel)).trans (congrArg _ ((put_past (by decide +kernel)).trans (congrArg _ (rfl))))))
  rw [e0, e1, e2, e3]
theorem new_State (v0 v1 v2 v3 v4 v5 v6 v7 v8 : V) : putF "top" v8 (putF "margin" v7 (putF "high" v6 (putF "wished" v5 (putF "place" v4 (putF "line" v3 (putF "folds" v2 (putF "lines" v1 (putF "look" v0 [])))))))) = ([("look", v0), ("lines", v1), ("folds", v2), ("line", v3), ("place", v4), ("wished", v5), ("high", v6), ("margin", v7), ("top", v8)] : List (Str × V)) := by
  have e0 : putF "look" v0 [] = ([("look", v0)] : List (Str × V)) := rfl
  have e1 : putF "lines" v1 ([("look", v0)] : List (Str × V)) = ([("look", v0), ("lines", v1)] : List (Str × V)) := (put_past (by decide +kernel)).trans (congrArg _ (rfl))
  have e2 : putF "folds" v2 ([("look", v0), ("lines", v1)] : List (Str × V)) = ([("look", v0), ("lines", v1), ("folds", v2)] : List (Str × V)) := (put_past (by decide +kernel)).trans (congrArg _ ((put_past (by decide +kernel)).trans (congrArg _ (rfl))))
  have e3 : putF "line" v3 ([("look", v0), ("lines", v1), ("folds", v2)] : List (Str × V)) = ([("look", v0), ("lines", v1), ("folds", v2), ("line", v3)] : List (Str × V)) := (put_past (by decide +kernel)).trans (congrArg _ ((put_past (by decide +kernel)).trans (congrArg _ ((put_past (by decide +kernel)).trans (congrArg _ (rfl))))))
  have e4 : putF "place" v4 ([("look", v0), ("lines", v1), ("folds", v2), ("line", v3)] : List (Str × V)) = ([("look", v0), ("lines", v1), ("folds", v2), ("line", v3), ("place", v4)] : List (Str × V)) := (put_past (by decide +kernel)).trans (congrArg _ ((put_past (by decide +kernel)).trans (congrArg _ ((put_past (by decide +kernel)).trans (congrArg _ ((put_past (by decide +kernel)).trans (congrArg _ (rfl))))))))
  have e5 : putF "wished" v5 ([("look", v0), ("lines", v1), ("folds", v2), ("line", v3), ("place", v4)] : List (Str × V)) = ([("look", v0), ("lines", v1), ("folds", v2), ("line", v3), ("place", v4), ("wished", v5)] : List (Str × V)) := (put_past (by decide +kernel)).trans (congrArg _ ((put_past (by decide +kernel)).trans (congrArg _ ((put_past (by decide +kernel)).trans (congrArg _ ((put_past (by decide +kernel)).trans (congrArg _ ((put_past (by decide +kernel)).trans (congrArg _ (rfl))))))))))
  have e6 : putF "high" v6 ([("look", v0), ("lines", v1), ("folds", v2), ("line", v3), ("place", v4), ("wished", v5)] : List (Str × V)) = ([("look", v0), ("lines", v1), ("folds", v2), ("line", v3), ("place", v4), ("wished", v5), ("high", v6)] : List (Str × V)) := (put_past (by decide +kernel)).trans (congrArg _ ((put_past (by decide +kernel)).trans (congrArg _ ((put_past (by decide +kernel)).trans (congrArg _ ((put_past (by decide +kernel)).trans (congrArg _ ((put_past (by decide +kernel)).trans (congrArg _ ((put_past (by decide +kernel)).trans (congrArg _ (rfl))))))))))))
  have e7 : putF "margin" v7 ([("look", v0), ("lines", v1), ("folds", v2), ("line", v3), ("place", v4), ("wished", v5), ("high", v6)] : List (Str × V)) = ([("look", v0), ("lines", v1), ("folds", v2), ("line", v3), ("place", v4), ("wished", v5), ("high", v6), ("margin", v7)] : List (Str × V)) := (put_past (by decide +kernel)).trans (congrArg _ ((put_past (by decide +kernel)).trans (congrArg _ ((put_past (by decide +kernel)).trans (congrArg _ ((put_past (by decide +kernel)).trans (congrArg _ ((put_past (by decide +kernel)).trans (congrArg _ ((put_past (by decide +kernel)).trans (congrArg _ ((put_past (by decide +kernel)).trans (congrArg _ (rfl))))))))))))))
  have e8 : putF "top" v8 ([("look", v0), ("lines", v1), ("folds", v2), ("line", v3), ("place", v4), ("wished", v5), ("high", v6), ("margin", v7)] : List (Str × V)) = ([("look", v0), ("lines", v1), ("folds", v2), ("line", v3), ("place", v4), ("wished", v5), ("high", v6), ("margin", v7), ("top", v8)] : List (Str × V)) := (put_past (by decide +kernel)).trans (congrArg _ ((put_past (by decide +kernel)).trans (congrArg _ ((put_past (by decide +kernel)).trans (congrArg _ ((put_past (by decide +kernel)).trans (congrArg _ ((put_past (by decide +kernel)).trans (congrArg _ ((put_past (by decide +kernel)).trans (congrArg _ ((put_past (by decide +kernel)).trans (congrArg _ ((put_past (by decide +kernel)).trans (congrArg _ (rfl))))))))))))))))
  rw [e0, e1, e2, e3, e4, e5, e6, e7, e8]
section
variable {K : PySem.W.Frag} {mg : Str → Option Value} {A : Ad} {H : Hp} {Q : VK} {a dx : Addr}
theorem r_Look_wide {k : Ue07.Look} (T : Tx K mg A) (h : H a = some (.ins A.C_Look dx (lkF k))) (q : Q (.int k.wide) H) : rFld K "wide" (.ref a) H Q := ⟨a, _, dx, _, _, rfl, h, T.t_Look.c, T.n_Look_wide, look_Look_wide .., q⟩
theorem r_Look_tab {k : Ue07.Look} (T : Tx K mg A) (h : H a = some (.ins A.C_Look dx (lkF k))) (q : Q (.int k.tab) H) : rFld K "tab" (.ref a) H Q := ⟨a, _, dx, _, _, rfl, h, T.t_Look.c, T.n_Look_tab, look_Look_tab .., q⟩
theorem r_Look_more {k : Ue07.Look} (T : Tx K mg A) (h : H a = some (.ins A.C_Look dx (lkF k))) (q : Q (.int k.more) H) : rFld K "more" (.ref a) H Q := ⟨a, _, dx, _, _, rfl, h, T.t_Look.c, T.n_Look_more, look_Look_more .., q⟩
theorem r_Look_hang {k : Ue07.Look} (T : Tx K mg A) (h : H a = some (.ins A.C_Look dx (lkF k))) (q : Q (.int (b01 k.hang)) H) : rFld K "hang" (.ref a) H Q := ⟨a, _, dx, _, _, rfl, h, T.t_Look.c, T.n_Look_hang, look_Look_hang .., q⟩
theorem r_Look_words {k : Ue07.Look} (T : Tx K mg A) (h : H a = some (.ins A.C_Look dx (lkF k))) (q : Q (.int (b01 k.words)) H) : rFld K "words" (.ref a) H Q := ⟨a, _, dx, _, _, rfl, h, T.t_Look.c, T.n_Look_words, look_Look_words .., q⟩
theorem r_Row_line {x : Nat × Ue07.Row} (T : Tx K mg A) (h : H a = some (.ins A.C_Row dx (rwF x))) (q : Q (.int x.1) H) : rFld K "line" (.ref a) H Q := ⟨a, _, dx, _, _, rfl, h, T.t_Row.c, T.n_Row_line, look_Row_line .., q⟩
theorem r_Row_begin {x : Nat × Ue07.Row} (T : Tx K mg A) (h : H a = some (.ins A.C_Row dx (rwF x))) (q : Q (.int x.2.a) H) : rFld K "begin" (.ref a) H Q := ⟨a, _, dx, _, _, rfl, h, T.t_Row.c, T.n_Row_begin, look_Row_begin .., q⟩
theorem r_Row_behind {x : Nat × Ue07.Row} (T : Tx K mg A) (h : H a = some (.ins A.C_Row dx (rwF x))) (q : Q (.int x.2.b) H) : rFld K "behind" (.ref a) H Q := ⟨a, _, dx, _, _, rfl, h, T.t_Row.c, T.n_Row_behind, look_Row_behind .., q⟩
theorem r_Row_column {x : Nat × Ue07.Row} (T : Tx K mg A) (h : H a = some (.ins A.C_Row dx (rwF x))) (q : Q (.int x.2.col) H) : rFld K "column" (.ref a) H Q := ⟨a, _, dx, _, _, rfl, h, T.t_Row.c, T.n_Row_column, look_Row_column .., q⟩
theorem r_State_look {lk L F : Addr} {g : Ue07.St} (T : Tx K mg A) (h : H a = some (.ins A.C_State dx (sF lk L F g))) (q : Q (.ref lk) H) : rFld K "look" (.ref a) H Q := ⟨a, _, dx, _, _, rfl, h, T.t_State.c, T.n_State_look, look_State_look .., q⟩
theorem r_State_lines {lk L F : Addr} {g : Ue07.St} (T : Tx K mg A) (h : H a = some (.ins A.C_State dx (sF lk L F g))) (q : Q (.ref L) H) : rFld K "lines" (.ref a) H Q := ⟨a, _, dx, _, _, rfl, h, T.t_State.c, T.n_State_lines, look_State_lines .., q⟩
theorem r_State_folds {lk L F : Addr} {g : Ue07.St} (T : Tx K mg A) (h : H a = some (.ins A.C_State dx (sF lk L F g))) (q : Q (.ref F) H) : rFld K "folds" (.ref a) H Q := ⟨a, _, dx, _, _, rfl, h, T.t_State.c, T.n_State_folds, look_State_folds .., q⟩
theorem r_State_line {lk L F : Addr} {g : Ue07.St} (T : Tx K mg A) (h : H a = some (.ins A.C_State dx (sF lk L F g))) (q : Q (.int g.line) H) : rFld K "line" (.ref a) H Q := ⟨a, _, dx, _, _, rfl, h, T.t_State.c, T.n_State_line, look_State_line .., q⟩
theorem r_State_place {lk L F : Addr} {g : Ue07.St} (T : Tx K mg A) (h : H a = some (.ins A.C_State dx (sF lk L F g))) (q : Q (.int g.place) H) : rFld K "place" (.ref a) H Q := ⟨a, _, dx, _, _, rfl, h, T.t_State.c, T.n_State_place, look_State_place .., q⟩
theorem r_State_wished {lk L F : Addr} {g : Ue07.St} (T : Tx K mg A) (h : H a = some (.ins A.C_State dx (sF lk L F g))) (q : Q (vOpt g.wish) H) : rFld K "wished" (.ref a) H Q := ⟨a, _, dx, _, _, rfl, h, T.t_State.c, T.n_State_wished, look_State_wished .., q⟩
theorem r_State_high {lk L F : Addr} {g : Ue07.St} (T : Tx K mg A) (h : H a = some (.ins A.C_State dx (sF lk L F g))) (q : Q (.int g.high) H) : rFld K "high" (.ref a) H Q := ⟨a, _, dx, _, _, rfl, h, T.t_State.c, T.n_State_high, look_State_high .., q⟩
theorem r_State_margin {lk L F : Addr} {g : Ue07.St} (T : Tx K mg A) (h : H a = some (.ins A.C_State dx (sF lk L F g))) (q : Q (.int g.margin) H) : rFld K "margin" (.ref a) H Q := ⟨a, _, dx, _, _, rfl, h, T.t_State.c, T.n_State_margin, look_State_margin .., q⟩
theorem r_State_top {lk L F : Addr} {g : Ue07.St} (T : Tx K mg A) (h : H a = some (.ins A.C_State dx (sF lk L F g))) (q : Q (.int g.top) H) : rFld K "top" (.ref a) H Q := ⟨a, _, dx, _, _, rfl, h, T.t_State.c, T.n_State_top, look_State_top .., q⟩
theorem w_State_look {lk L F : Addr} {g : Ue07.St} {R : Hp → Prop} {n : Addr} (T : Tx K mg A) (h : H a = some (.ins A.C_State dx (sF lk L F g))) (q : R (upd H a (.ins A.C_State dx (sF n L F g)))) : rSt K "look" (.ref a) (.ref n) H R := ⟨a, _, dx, _, rfl, h, T.t_State.c, T.n_State_look, (by show 9 < 1000; decide), by rw [put_State_look]; exact q⟩
theorem w_State_lines {lk L F : Addr} {g : Ue07.St} {R : Hp → Prop} {n : Addr} (T : Tx K mg A) (h : H a = some (.ins A.C_State dx (sF lk L F g))) (q : R (upd H a (.ins A.C_State dx (sF lk n F g)))) : rSt K "lines" (.ref a) (.ref n) H R := ⟨a, _, dx, _, rfl, h, T.t_State.c, T.n_State_lines, (by show 9 < 1000; decide), by rw [put_State_lines]; exact q⟩
theorem w_State_folds {lk L F : Addr} {g : Ue07.St} {R : Hp → Prop} {n : Addr} (T : Tx K mg A) (h : H a = some (.ins A.C_State dx (sF lk L F g))) (q : R (upd H a (.ins A.C_State dx (sF lk L n g)))) : rSt K "folds" (.ref a) (.ref n) H R := ⟨a, _, dx, _, rfl, h, T.t_State.c, T.n_State_folds, (by show 9 < 1000; decide), by rw [put_State_folds]; exact q⟩
theorem w_State_line {lk L F : Addr} {g : Ue07.St} {R : Hp → Prop} {n : Nat} (T : Tx K mg A) (h : H a = some (.ins A.C_State dx (sF lk L F g))) (q : R (upd H a (.ins A.C_State dx (sF lk L F { g with line := n })))) : rSt K "line" (.ref a) (.int n) H R := ⟨a, _, dx, _, rfl, h, T.t_State.c, T.n_State_line, (by show 9 < 1000; decide), by rw [put_State_line]; exact q⟩
theorem w_State_place {lk L F : Addr} {g : Ue07.St} {R : Hp → Prop} {n : Nat} (T : Tx K mg A) (h : H a = some (.ins A.C_State dx (sF lk L F g))) (q : R (upd H a (.ins A.C_State dx (sF lk L F { g with place := n })))) : rSt K "place" (.ref a) (.int n) H R := ⟨a, _, dx, _, rfl, h, T.t_State.c, T.n_State_place, (by show 9 < 1000; decide), by rw [put_State_place]; exact q⟩
theorem w_State_wished {lk L F : Addr} {g : Ue07.St} {R : Hp → Prop} {n : Option Nat} (T : Tx K mg A) (h : H a = some (.ins A.C_State dx (sF lk L F g))) (q : R (upd H a (.ins A.C_State dx (sF lk L F { g with wish := n })))) : rSt K "wished" (.ref a) (vOpt n) H R := ⟨a, _, dx, _, rfl, h, T.t_State.c, T.n_State_wished, (by show 9 < 1000; decide), by rw [put_State_wished]; exact q⟩
theorem w_State_high {lk L F : Addr} {g : Ue07.St} {R : Hp → Prop} {n : Nat} (T : Tx K mg A) (h : H a = some (.ins A.C_State dx (sF lk L F g))) (q : R (upd H a (.ins A.C_State dx (sF lk L F { g with high := n })))) : rSt K "high" (.ref a) (.int n) H R := ⟨a, _, dx, _, rfl, h, T.t_State.c, T.n_State_high, (by show 9 < 1000; decide), by rw [put_State_high]; exact q⟩
theorem w_State_margin {lk L F : Addr} {g : Ue07.St} {R : Hp → Prop} {n : Nat} (T : Tx K mg A) (h : H a = some (.ins A.C_State dx (sF lk L F g))) (q : R (upd H a (.ins A.C_State dx (sF lk L F { g with margin := n })))) : rSt K "margin" (.ref a) (.int n) H R := ⟨a, _, dx, _, rfl, h, T.t_State.c, T.n_State_margin, (by show 9 < 1000; decide), by rw [put_State_margin]; exact q⟩
theorem w_State_top {lk L F : Addr} {g : Ue07.St} {R : Hp → Prop} {n : Nat} (T : Tx K mg A) (h : H a = some (.ins A.C_State dx (sF lk L F g))) (q : R (upd H a (.ins A.C_State dx (sF lk L F { g with top := n })))) : rSt K "top" (.ref a) (.int n) H R := ⟨a, _, dx, _, rfl, h, T.t_State.c, T.n_State_top, (by show 9 < 1000; decide), by rw [put_State_top]; exact q⟩
end
end FV
namespace FV
open PySem PySem.Spec PyProof.Rows L2
/-! ### small words -/
theorem pe_gi {X : Cx} {x : Str} {i : Int} {pos : Pos} (hg : Gl X x) (hm : ∃ t, X.mg x = some (.int i t)) (hd : (x == ("__debug__" : Str)) = false := by decide) : PE X (.Name x pos) (tC (.int i)) :=
  let ⟨t, h⟩ := hm
  pe_glob hg h ⟨t, rfl⟩ hd
theorem hu65 {A : Around} {k : Nat} (hr : Room k A) : A.units + 65 < cLine := by
  have := hr.un
  omega
theorem same_upd {H : Hp} {p : Addr} {o : HO} (h : H p = none) : Same H (upd H p o) := fun b x e => by
  rw [upd_ne (ne_of_none e h)]
  exact e
theorem sz {n : Nat} (h : n ≤ 100000) : n ≤ sizeLine := Nat.le_trans h (by decide)
theorem szl {n : Nat} (h : n < 100000) : n < sizeLine := Nat.lt_of_lt_of_le h (by decide)
/-- a test that is open -/
theorem ifd {c : Prop} [Decidable c] {A B : Prop} (h1 : c → A) (h2 : ¬ c → B) : if decide c = true then A else B := by
  by_cases h : c
  · rw [decide_eq_true h]; exact iteT (h1 h)
  · rw [decide_eq_false h]; exact iteF (h2 h)
theorem ifb {b : Bool} {A B : Prop} (h1 : b = true → A) (h2 : b = false → B) : if b = true then A else B := by
  cases b with
  | true => exact iteT (h1 rfl)
  | false => exact iteF (h2 rfl)
theorem ifn {c : Prop} [Decidable c] {A B : Prop} (hc : ¬ c) (h : A) : if (!decide c) = true then A else B := by
  rw [decide_eq_false hc]
  exact iteT h
theorem ifnd {c : Prop} [Decidable c] {A B : Prop} (h1 : ¬ c → A) (h2 : c → B) : if (!decide c) = true then A else B := by
  by_cases h : c
  · rw [decide_eq_true h]; exact iteF (h2 h)
  · rw [decide_eq_false h]; exact iteT (h1 h)
/-! ### loops, as words that keep their parts -/
/-- a for whose walk J is known; a comprehension whose walk J is known -/
def ForG (J : It) (g : TG) (tb : TS) (D : Ends) (σ : L2.St) (H : Hp) : Prop := tFor (fun _ G R => R J G) g tb D σ H
theorem w_for {wi : TI} {g : TG} {tb : TS} {D : Ends} {σ : L2.St} {H : Hp} (h : wi σ H fun J G => ForG J g tb D σ G) : tFor wi g tb D σ H := h
theorem forG_it {J : It} {n : Nat} {G : Hp → Prop} {Y : Nat → Hp → V → Hp → Prop} (w : Walk J n G Y) {g : TG} {tb : TS} {D : Ends} {σ : L2.St} {H : Hp} (I : Nat → L2.St → Hp → Prop) (a0 : I 0 σ H) (aG : ∀ i ρ U, i ≤ n → I i ρ U → G U)
    (aS : ∀ i x ρ U U', i < n → I i ρ U → Y i U x U' → g x ρ U' fun ρ' U2 => tb { D with nx := I (i + 1), ct := I (i + 1), bk := D.nx } ρ' U2) (aE : ∀ ρ U, I n ρ U → D.nx ρ U) : ForG J g tb D σ H := for_it w I a0 aG aS aE
theorem forG_list {K : PySem.W.Frag} {a : Addr} {xs : List V} {g : TG} {tb : TS} {D : Ends} {σ : L2.St} {H : Hp} (I : Nat → L2.St → Hp → Prop) (a0 : I 0 σ H) (aG : ∀ i ρ U, i ≤ xs.length → I i ρ U → SqL K U a xs)
    (aS : ∀ i x ρ U, xs[i]? = some x → I i ρ U → g x ρ U fun ρ' U2 => tb { D with nx := I (i + 1), ct := I (i + 1), bk := D.nx } ρ' U2) (aE : ∀ ρ U, I xs.length ρ U → D.nx ρ U) : ForG (Itl K a) g tb D σ H := for_list I a0 aG aS aE
theorem forG_range {lo : Int} {n : Nat} {g : TG} {tb : TS} {D : Ends} {σ : L2.St} {H : Hp} (I : Nat → L2.St → Hp → Prop) (a0 : I 0 σ H)
    (aS : ∀ i ρ U, i < n → I i ρ U → g (.int (lo + i)) ρ U fun ρ' U2 => tb { D with nx := I (i + 1), ct := I (i + 1), bk := D.nx } ρ' U2) (aE : ∀ ρ U, I n ρ U → D.nx ρ U) : ForG (Itr lo n) g tb D σ H := for_range I a0 aS aE
theorem w_lc {wi : TI} {g : TG} {tt : TT} {te : TE} {vs : List Nat} {σ : L2.St} {H : Hp} {Q : VK} (h : wi σ H fun J G => tLc (fun _ U R => R J U) g tt te vs σ G Q) : tLc wi g tt te vs σ H Q := h
/-- one turn of a comprehension: the item made goes behind what stands at D, or nothing does -/
def LcT (g : TG) (tt : TT) (te : TE) (vs : List Nat) (σ : L2.St) (D : Addr) (N : Hp → Prop) (x : V) (U : Hp) : Prop := g x (wipe σ vs) U fun ρ U2 => wipe ρ vs = wipe σ vs ∧ tt ρ U2 fun yes U3 => if yes = true then te ρ U3 fun y U4 => ∃ made, U4 D = some (.lst made) ∧ made.length < sizeLine ∧ N (upd U4 D (.lst (made ++ [y]))) else N U3
theorem lcG_list {K : PySem.W.Frag} {a : Addr} {xs : List V} {g : TG} {tt : TT} {te : TE} {vs : List Nat} {σ : L2.St} {H : Hp} {Q : VK} (I : Addr → Nat → Hp → Prop) (a0 : ∀ D, H D = none → I D 0 (upd H D (.lst []))) (aG : ∀ D i U, I D i U → SqL K U a xs)
    (aS : ∀ D, H D = none → ∀ i x U, xs[i]? = some x → I D i U → LcT g tt te vs σ D (I D (i + 1)) x U) (aE : ∀ D, H D = none → ∀ U, I D xs.length U → Q (.ref D) U) : tLc (fun _ U R => R (Itl K a) U) g tt te vs σ H Q :=
  fun D nD => lc_list (Qd := Q (.ref D)) (I D) (a0 D nD) (fun i U _ h => aG D i U h) (aS D nD) (aE D nD)
theorem lcG_range {lo : Int} {n : Nat} {g : TG} {tt : TT} {te : TE} {vs : List Nat} {σ : L2.St} {H : Hp} {Q : VK} (I : Addr → Nat → Hp → Prop) (a0 : ∀ D, H D = none → I D 0 (upd H D (.lst [])))
    (aS : ∀ D, H D = none → ∀ i U, i < n → I D i U → LcT g tt te vs σ D (I D (i + 1)) (.int (lo + i)) U) (aE : ∀ D, H D = none → ∀ U, I D n U → Q (.ref D) U) : tLc (fun _ U R => R (Itr lo n) U) g tt te vs σ H Q :=
  fun D nD => lc_range (Qd := Q (.ref D)) (I D) (a0 D nD) (aS D nD) (aE D nD)
/-! ### two lists, item by item -/
inductive All2 {α β : Type} (R : α → β → Prop) : List α → List β → Prop
  | nil : All2 R [] []
  | cons {x : α} {y : β} {xs : List α} {ys : List β} : R x y → All2 R xs ys → All2 R (x :: xs) (y :: ys)
namespace All2
variable {α β : Type} {R S : α → β → Prop}
theorem len {xs : List α} {ys : List β} (h : All2 R xs ys) : xs.length = ys.length := by
  induction h with
  | nil => rfl
  | cons _ _ ih => exact congrArg (· + 1) ih
theorem mono {xs : List α} {ys : List β} (h : All2 R xs ys) (f : ∀ x y, x ∈ xs → R x y → S x y) : All2 S xs ys := by
  induction h with
  | nil => exact .nil
  | cons a _ ih => exact .cons (f _ _ (List.mem_cons_self ..) a) (ih fun x y m => f x y (List.mem_cons_of_mem _ m))
theorem get {xs : List α} {ys : List β} (h : All2 R xs ys) {i : Nat} {x : α} (e : xs[i]? = some x) : ∃ y, ys[i]? = some y ∧ R x y := by
  induction h generalizing i with
  | nil => simp at e
  | cons a _ ih =>
    cases i with
    | zero => cases e; exact ⟨_, rfl, a⟩
    | succ i => rw [List.getElem?_cons_succ] at e ⊢; exact ih e
theorem get' {xs : List α} {ys : List β} (h : All2 R xs ys) {i : Nat} {y : β} (e : ys[i]? = some y) : ∃ x, xs[i]? = some x ∧ R x y := by
  induction h generalizing i with
  | nil => simp at e
  | cons a _ ih =>
    cases i with
    | zero => cases e; exact ⟨_, rfl, a⟩
    | succ i => rw [List.getElem?_cons_succ] at e ⊢; exact ih e
theorem append {xs xs' : List α} {ys ys' : List β} (h : All2 R xs ys) (h' : All2 R xs' ys') : All2 R (xs ++ xs') (ys ++ ys') := by
  induction h with
  | nil => exact h'
  | cons a _ ih => exact .cons a ih
theorem take {xs : List α} {ys : List β} (h : All2 R xs ys) (n : Nat) : All2 R (xs.take n) (ys.take n) := by
  induction h generalizing n with
  | nil => rw [List.take_nil, List.take_nil]; exact .nil
  | cons a _ ih =>
    cases n with
    | zero => exact .nil
    | succ n => exact .cons a (ih n)
theorem drop {xs : List α} {ys : List β} (h : All2 R xs ys) (n : Nat) : All2 R (xs.drop n) (ys.drop n) := by
  induction h generalizing n with
  | nil => rw [List.drop_nil, List.drop_nil]; exact .nil
  | cons a h ih =>
    cases n with
    | zero => exact .cons a h
    | succ n => exact ih n
theorem snoc {xs : List α} {ys : List β} {x : α} {y : β} (h : All2 R xs ys) (a : R x y) : All2 R (xs ++ [x]) (ys ++ [y]) := h.append (.cons a .nil)
theorem left {xs : List α} {ys : List β} (h : All2 R xs ys) : ∀ x ∈ xs, ∃ y ∈ ys, R x y := by
  induction h with
  | nil => intro x hx; cases hx
  | cons a _ ih =>
    intro x hx
    rcases List.mem_cons.mp hx with rfl | hx
    · exact ⟨_, List.mem_cons_self .., a⟩
    · obtain ⟨y, hy, r⟩ := ih x hx
      exact ⟨y, List.mem_cons_of_mem _ hy, r⟩
end All2
theorem take_snoc {α : Type} {l : List α} {i : Nat} {x : α} (h : l[i]? = some x) : l.take (i + 1) = l.take i ++ [x] := by
  rw [List.take_add_one, h]
  rfl
/-! ### small objects -/
/-- a fold's tuple; some bytes -/
def FdAt (H : Hp) (a : Addr) (f : Nat × Nat) : Prop := H a = some (.tup [.int f.1, .int f.2])
def FdV (H : Hp) (v : V) (f : Nat × Nat) : Prop := ∃ a, v = .ref a ∧ FdAt H a f
def nV (w : List Nat) : List V := w.map fun (n : Nat) => V.int n
theorem nV_len (w : List Nat) : (nV w).length = w.length := List.length_map ..
theorem nV_get {w : List Nat} {i b : Nat} (h : w[i]? = some b) : (nV w)[i]? = some (.int b) := by
  unfold nV
  rw [List.getElem?_map, h]
  rfl
theorem of_nV {w : List Nat} {i : Nat} {x : V} (h : (nV w)[i]? = some x) : ∃ b, w[i]? = some b ∧ x = .int b := by
  unfold nV at h
  rw [List.getElem?_map] at h
  cases e : w[i]? with
  | none => exact absurd h (by rw [e]; intro z; cases z)
  | some b => rw [e] at h; exact ⟨b, rfl, (Option.some.inj h).symm⟩
section
variable {P : Program} {w : World} {K : PySem.W.Frag} {mg : Str → Option Value} {base : Heap} {A : Ad}
theorem fd0 {H : Hp} {a : Addr} {f : Nat × Nat} {Q : VK} (hf : FdAt H a f) (q : Q (.int f.1) H) : rIxT K (.ref a) (.int 0) H Q := ⟨a, _, 0, _, rfl, rfl, SqT.of hf, atI_nat (j := 0) rfl, q⟩
theorem fd1 {H : Hp} {a : Addr} {f : Nat × Nat} {Q : VK} (hf : FdAt H a f) (q : Q (.int f.2) H) : rIxT K (.ref a) (.int 1) H Q := ⟨a, _, 1, _, rfl, rfl, SqT.of hf, atI_nat (j := 1) rfl, q⟩
def sp_hides : Sp := fun vs H Q _ => ∃ (a : Addr) (f : Nat × Nat) (n : Nat), vs = [.ref a, .int n] ∧ FdAt H a f ∧ Q (.bl (Ue07.hides f n)) H
theorem sc_hides : FnScope ["fold", "line"] ["fold", "line"] (defScope s_hides) := ⟨rfl, rfl, rfl, by decide +kernel, rfl, by decide +kernel, by decide +kernel⟩
-- slots of hides: fold 0, line 1
theorem ok_hides (T : Tx K mg A) : FnOk P w K mg base CX0 1 A.f_hides A.d_hides ["fold", "line"] (sp_hides) := by
  refine T.t_hides.F.ok sc_hides (fun vs H Q E h => ?_) (fun cdv Ar outer s0 H vs Q E hr h => ?_)
  · obtain ⟨a, f, n, rfl, _⟩ := h
    rfl
  · obtain ⟨a, f, n, rfl, h⟩ := h
    refine ⟨_, (pss_one (ps_ret (pe_chain op_lt op_lt (pe_ix ix_tup (pv 0) (pe_int) (fun _ _ => rfl)) (pv 1) (pe_ix ix_tup (pv 0) (pe_int) (fun _ _ => rfl))))), ?_⟩
    dsimp only [tRet, tRetN, tChain, tOp, tUn, tC, tVar, tSeq, tIfS, tAsg, gName, tTest, tB, tAnd, tOr, tNot, tAndV, tOrV, tNotV, tFld_eq, sFld_eq, sFldAug, L2.rAdd, L2.rSub, tCons, tNil, tLst, tTup, tCall, tMake, tCB, tCKw, tBM, tSl, tPart, tNoPart, tDrop, tNext, tBreak, iList, iRng1, iEnum, gTup, gCons, gNil, tAug, ipI, rI0, rI, rU, cxOf, Cx.nox, Cx.wish, L2.start, List.map, List.length, List.replicate, List.append]
    obtain ⟨hf, q⟩ := h
    refine ⟨_, rfl, fd0 hf ⟨_, rfl, _, _, rfl, rfl, _, rfl, ?_⟩⟩
    refine ifd (fun c => ⟨_, rfl, fd1 hf ⟨_, _, rfl, rfl, ?_⟩⟩) (fun c => ?_)
    · have e : Ue07.hides f n = decide ((n : Int) < f.2) := by
        unfold Ue07.hides
        rw [decide_eq_true (show f.1 < n by omega), Bool.true_and]
        exact decide_eq_decide.mpr ⟨fun _ => by omega, fun _ => by omega⟩
      rw [← e]
      exact q
    · have e : Ue07.hides f n = false := by
        unfold Ue07.hides
        rw [decide_eq_false (show ¬ f.1 < n by omega), Bool.false_and]
      rw [← e]
      exact q
def hasLine (f : Nat × Nat) (n : Nat) : Bool := decide (f.1 ≤ n) && decide (n < f.2)
def sp_has_line : Sp := fun vs H Q _ => ∃ (a : Addr) (f : Nat × Nat) (n : Nat), vs = [.ref a, .int n] ∧ FdAt H a f ∧ Q (.bl (hasLine f n)) H
theorem sc_has_line : FnScope ["fold", "line"] ["fold", "line"] (defScope s_has_line) := ⟨rfl, rfl, rfl, by decide +kernel, rfl, by decide +kernel, by decide +kernel⟩
-- slots of has_line: fold 0, line 1
theorem ok_has_line (T : Tx K mg A) : FnOk P w K mg base CX0 1 A.f_has_line A.d_has_line ["fold", "line"] (sp_has_line) := by
  refine T.t_has_line.F.ok sc_has_line (fun vs H Q E h => ?_) (fun cdv Ar outer s0 H vs Q E hr h => ?_)
  · obtain ⟨a, f, n, rfl, _⟩ := h
    rfl
  · obtain ⟨a, f, n, rfl, h⟩ := h
    refine ⟨_, (pss_one (ps_ret (pe_chain op_le op_lt (pe_ix ix_tup (pv 0) (pe_int) (fun _ _ => rfl)) (pv 1) (pe_ix ix_tup (pv 0) (pe_int) (fun _ _ => rfl))))), ?_⟩
    dsimp only [tRet, tRetN, tChain, tOp, tUn, tC, tVar, tSeq, tIfS, tAsg, gName, tTest, tB, tAnd, tOr, tNot, tAndV, tOrV, tNotV, tFld_eq, sFld_eq, sFldAug, L2.rAdd, L2.rSub, tCons, tNil, tLst, tTup, tCall, tMake, tCB, tCKw, tBM, tSl, tPart, tNoPart, tDrop, tNext, tBreak, iList, iRng1, iEnum, gTup, gCons, gNil, tAug, ipI, rI0, rI, rU, cxOf, Cx.nox, Cx.wish, L2.start, List.map, List.length, List.replicate, List.append]
    obtain ⟨hf, q⟩ := h
    refine ⟨_, rfl, fd0 hf ⟨_, rfl, _, _, rfl, rfl, _, rfl, ?_⟩⟩
    refine ifd (fun c => ⟨_, rfl, fd1 hf ⟨_, _, rfl, rfl, ?_⟩⟩) (fun c => ?_)
    · have e : hasLine f n = decide ((n : Int) < f.2) := by
        unfold hasLine
        rw [decide_eq_true (show f.1 ≤ n by omega), Bool.true_and]
        exact decide_eq_decide.mpr ⟨fun _ => by omega, fun _ => by omega⟩
      rw [← e]
      exact q
    · have e : hasLine f n = false := by
        unfold hasLine
        rw [decide_eq_false (show ¬ f.1 ≤ n by omega), Bool.false_and]
      rw [← e]
      exact q
def sp_is_hidden : Sp := fun vs H Q _ => ∃ (F : Addr) (ts : List V) (fs : List (Nat × Nat)) (n : Nat), vs = [.ref F, .int n] ∧ H F = some (.lst ts) ∧ All2 (FdV H) ts fs ∧ Q (.bl (Ue07.hidden fs n)) H
theorem sc_is_hidden : FnScope ["folds", "line", "fold"] ["folds", "line"] (defScope s_is_hidden) := ⟨rfl, rfl, rfl, by decide +kernel, rfl, by decide +kernel, by decide +kernel⟩
-- slots of is_hidden: folds 0, line 1, fold 2
theorem ok_is_hidden (T : Tx K mg A) : FnOk P w K mg base CX0 2 A.f_is_hidden A.d_is_hidden ["folds", "line"] (sp_is_hidden) := by
  refine T.t_is_hidden.F.ok sc_is_hidden (fun vs H Q E h => ?_) (fun cdv Ar outer s0 H vs Q E hr h => ?_)
  · obtain ⟨F, ts, fs, n, rfl, _⟩ := h
    rfl
  · obtain ⟨F, ts, fs, n, rfl, h⟩ := h
    refine ⟨_, (pss_cons (ps_for PassesOwn.never rfl (pi_list (pv 0)) (pg_name (i := 2) sc_is_hidden.nd rfl (.inl rfl)) (pss_one (ps_if (pt_val (pe_call (ok_hides T) (hr.mono (by decide)) (by rfl) T.t_hides.g T.t_hides.F.kp T.t_hides.b .nil pass0 (pa_cons (pv 2) (pa_cons (pv 1) pa_nil)))) (pss_one (ps_ret (pe_bl))) pss_nil)))
      (pss_one (ps_ret (pe_bl)))), ?_⟩
    dsimp only [tRet, tRetN, tChain, tOp, tUn, tC, tVar, tSeq, tIfS, tAsg, gName, tTest, tB, tAnd, tOr, tNot, tAndV, tOrV, tNotV, tFld_eq, sFld_eq, sFldAug, L2.rAdd, L2.rSub, tCons, tNil, tLst, tTup, tCall, tMake, tCB, tCKw, tBM, tSl, tPart, tNoPart, tDrop, tNext, tBreak, iList, iRng1, iEnum, gTup, gCons, gNil, tAug, ipI, rI0, rI, rU, cxOf, Cx.nox, Cx.wish, L2.start, List.map, List.length, List.replicate, List.append]
    obtain ⟨hF, hA, q⟩ := h
    refine w_for ⟨_, rfl, F, rfl, ⟨_, SqL.of hF⟩, ?_⟩
    refine forG_list (xs := ts) (fun i σ H' => H' = H ∧ (∃ v, σ = [some (.ref F), some (.int n), v]) ∧ ∀ f ∈ fs.take i, Ue07.hides f n = false) ⟨rfl, ⟨_, rfl⟩, by simp⟩ (fun i σ H' _ ⟨e, _⟩ => by rw [e]; exact SqL.of hF) ?_ ?_
    · rintro i x σ H' hx ⟨rfl, ⟨v, rfl⟩, hn⟩
      obtain ⟨f, hf, a, rfl, ha⟩ := hA.get hx
      refine ⟨_, rfl, _, rfl, a, f, n, rfl, ha, _, rfl, ifb (fun c => ?_) (fun c => ?_)⟩
      · have e : Ue07.hidden fs n = true := List.any_eq_true.mpr ⟨f, List.mem_of_getElem? hf, c⟩
        rw [← e]
        exact q
      · refine ⟨rfl, ⟨_, rfl⟩, fun f' hf' => ?_⟩
        rw [take_snoc hf, List.mem_append, List.mem_singleton] at hf'
        rcases hf' with h | rfl
        · exact hn f' h
        · exact c
    · rintro σ H' ⟨rfl, ⟨v, rfl⟩, hn⟩
      rw [hA.len, List.take_length] at hn
      have e : Ue07.hidden fs n = false := by
        unfold Ue07.hidden
        rw [List.any_eq_false]
        intro f hf
        rw [hn f hf]
        decide
      show Q (.bl false) H'
      rw [← e]
      exact q
end
end FV
namespace FV
open PySem PySem.Spec PyProof.Rows L2
/-! ### folds -/
def pD (f : Nat × Nat) : PyData := .tuple [.int f.1, .int f.2]
theorem pD_lay (z : Nat × Nat) : (pD z).canLay0 = true := by simp [pD, PyData.canLay0, PyData.canLayAll0]
theorem pD_depth (z : Nat × Nat) : (pD z).depth = 1 := by simp [pD, PyData.depth, PyData.depthAll]
theorem pDs_lay : ∀ zs : List (Nat × Nat), PyData.canLayAll0 (zs.map pD) = true
  | [] => rfl
  | f :: fs => by rw [List.map_cons, PyData.canLayAll0, pD_lay f, pDs_lay fs]; rfl
theorem pDs_depth : ∀ zs : List (Nat × Nat), PyData.depthAll (zs.map pD) ≤ 1
  | [] => Nat.zero_le _
  | f :: fs => by
    have hf := pD_depth f
    have hr := pDs_depth fs
    rw [List.map_cons, PyData.depthAll]
    omega
theorem pD_shaped (z : Nat × Nat) : SeqAt.shaped (pD z) = true := by
  have h := pD_depth z
  show ((pD z).canLay0 && decide ((pD z).depth ≤ 64)) = true
  rw [Bool.and_eq_true]
  exact ⟨pD_lay z, decide_eq_true (by omega)⟩
theorem pDs_shaped (zs : List (Nat × Nat)) : SeqAt.shaped (.list (zs.map pD)) = true := by
  have h1 := pDs_depth zs
  have h2 : PyData.depth (.list (zs.map pD)) ≤ 64 := by
    simp only [PyData.depth]
    omega
  show (PyData.canLay0 (.list (zs.map pD)) && decide (PyData.depth (.list (zs.map pD)) ≤ 64)) = true
  rw [Bool.and_eq_true]
  exact ⟨by simp only [PyData.canLay0]; exact pDs_lay zs, decide_eq_true h2⟩
theorem pD_eqv (z w : Nat × Nat) : PyData.eqv (pD z) (pD w) = decide (z = w) := by
  have e : PyData.eqv (pD z) (pD w) = (((z.1 : Int) == (w.1 : Int)) && (((z.2 : Int) == (w.2 : Int)) && true)) := by simp only [pD, PyData.eqv, PyData.eqvAll]
  rw [e, Bool.and_true, Bool.eq_iff_iff, Bool.and_eq_true, decide_eq_true_iff, beq_iff_eq, beq_iff_eq]
  exact ⟨fun h => Prod.ext (by omega) (by omega), fun h => by rw [h]; exact ⟨rfl, rfl⟩⟩
theorem FdV.same {H H' : Hp} (s : Same H H') {v : V} {f : Nat × Nat} (h : FdV H v f) : FdV H' v f := let ⟨a, e, ha⟩ := h; ⟨a, e, s _ _ ha⟩
theorem fds_same {H H' : Hp} (s : Same H H') {ts : List V} {fs : List (Nat × Nat)} (h : All2 (FdV H) ts fs) : All2 (FdV H') ts fs := h.mono fun _ _ _ r => r.same s
def within (f o : Nat × Nat) : Bool := decide (o.1 ≤ f.1) && decide (f.2 ≤ o.2)
def apart (f o : Nat × Nat) : Bool := decide (f.2 ≤ o.1) || decide (o.2 ≤ f.1)
def clash (f o : Nat × Nat) : Bool := decide (f = o) || !(apart f o || (within f o || within o f))
section
variable {P : Program} {w : World} {K : PySem.W.Frag} {mg : Str → Option Value} {base : Heap} {A : Ad}
theorem dp_fd {H : Hp} {a : Addr} {f : Nat × Nat} (h : FdAt H a f) : Dp K H (.ref a) (pD f) := .tup (SqT.of h) (.cons (.int _) (.cons (.int _) .nil))
theorem dp_fds {H : Hp} : ∀ {ts : List V} {fs : List (Nat × Nat)}, All2 (FdV H) ts fs → DpAll K H ts (fs.map pD)
  | _, _, .nil => .nil
  | _, _, .cons ⟨_, e, h⟩ r => .cons (by rw [e]; exact dp_fd h) (dp_fds r)
def sp_two (t : Nat × Nat → Nat × Nat → Bool) : Sp := fun vs H Q _ => ∃ (a b : Addr) (f o : Nat × Nat), vs = [.ref a, .ref b] ∧ FdAt H a f ∧ FdAt H b o ∧ Q (.bl (t f o)) H
theorem sc_is_within : FnScope ["fold", "other"] ["fold", "other"] (defScope s_is_within) := ⟨rfl, rfl, rfl, by decide +kernel, rfl, by decide +kernel, by decide +kernel⟩
-- slots of is_within: fold 0, other 1
theorem ok_is_within (T : Tx K mg A) : FnOk P w K mg base CX0 1 A.f_is_within A.d_is_within ["fold", "other"] (sp_two within) := by
  refine T.t_is_within.F.ok sc_is_within (fun vs H Q E h => ?_) (fun cdv Ar outer s0 H vs Q E hr h => ?_)
  · obtain ⟨a, b, f, o, rfl, _⟩ := h
    rfl
  · obtain ⟨a, b, f, o, rfl, h⟩ := h
    refine ⟨_, (pss_one (ps_ret (pe_and (pe_cmpR op_le (pe_ix ix_tup (pv 1) (pe_int) (fun _ _ => rfl)) (pe_ix ix_tup (pv 0) (pe_int) (fun _ _ => rfl)) (nomark _)) (pe_one (pe_cmpR op_le (pe_ix ix_tup (pv 0) (pe_int) (fun _ _ => rfl)) (pe_ix ix_tup (pv 1) (pe_int) (fun _ _ => rfl)) (nomark _)))))), ?_⟩
    dsimp only [tRet, tRetN, tChain, tOp, tUn, tC, tVar, tSeq, tIfS, tAsg, gName, tTest, tB, tAnd, tOr, tNot, tAndV, tOrV, tNotV, tFld_eq, sFld_eq, sFldAug, L2.rAdd, L2.rSub, tCons, tNil, tLst, tTup, tCall, tMake, tCB, tCKw, tBM, tSl, tPart, tNoPart, tDrop, tNext, tBreak, iList, iRng1, iEnum, gTup, gCons, gNil, tAug, ipI, rI0, rI, rU, cxOf, Cx.nox, Cx.wish, L2.start, List.map, List.length, List.replicate, List.append]
    obtain ⟨hf, ho, q⟩ := h
    refine ⟨_, rfl, fd0 ho ⟨_, rfl, fd0 hf ⟨_, _, rfl, rfl, _, rfl, ?_⟩⟩⟩
    refine ifd (fun c => ⟨_, rfl, fd1 hf ⟨_, rfl, fd1 ho ⟨_, _, rfl, rfl, ?_⟩⟩⟩) (fun c => ?_)
    · have e : within f o = decide ((f.2 : Int) ≤ o.2) := by
        unfold within
        rw [decide_eq_true (show o.1 ≤ f.1 by omega), Bool.true_and]
        exact decide_eq_decide.mpr ⟨fun _ => by omega, fun _ => by omega⟩
      rw [← e]
      exact q
    · have e : within f o = false := by
        unfold within
        rw [decide_eq_false (show ¬ o.1 ≤ f.1 by omega), Bool.false_and]
      rw [← e]
      exact q
theorem sc_is_apart : FnScope ["fold", "other"] ["fold", "other"] (defScope s_is_apart) := ⟨rfl, rfl, rfl, by decide +kernel, rfl, by decide +kernel, by decide +kernel⟩
-- slots of is_apart: fold 0, other 1
theorem ok_is_apart (T : Tx K mg A) : FnOk P w K mg base CX0 1 A.f_is_apart A.d_is_apart ["fold", "other"] (sp_two apart) := by
  refine T.t_is_apart.F.ok sc_is_apart (fun vs H Q E h => ?_) (fun cdv Ar outer s0 H vs Q E hr h => ?_)
  · obtain ⟨a, b, f, o, rfl, _⟩ := h
    rfl
  · obtain ⟨a, b, f, o, rfl, h⟩ := h
    refine ⟨_, (pss_one (ps_ret (pe_or (pe_cmpR op_le (pe_ix ix_tup (pv 0) (pe_int) (fun _ _ => rfl)) (pe_ix ix_tup (pv 1) (pe_int) (fun _ _ => rfl)) (nomark _)) (pe_one (pe_cmpR op_le (pe_ix ix_tup (pv 1) (pe_int) (fun _ _ => rfl)) (pe_ix ix_tup (pv 0) (pe_int) (fun _ _ => rfl)) (nomark _)))))), ?_⟩
    dsimp only [tRet, tRetN, tChain, tOp, tUn, tC, tVar, tSeq, tIfS, tAsg, gName, tTest, tB, tAnd, tOr, tNot, tAndV, tOrV, tNotV, tFld_eq, sFld_eq, sFldAug, L2.rAdd, L2.rSub, tCons, tNil, tLst, tTup, tCall, tMake, tCB, tCKw, tBM, tSl, tPart, tNoPart, tDrop, tNext, tBreak, iList, iRng1, iEnum, gTup, gCons, gNil, tAug, ipI, rI0, rI, rU, cxOf, Cx.nox, Cx.wish, L2.start, List.map, List.length, List.replicate, List.append]
    obtain ⟨hf, ho, q⟩ := h
    refine ⟨_, rfl, fd1 hf ⟨_, rfl, fd0 ho ⟨_, _, rfl, rfl, _, rfl, ?_⟩⟩⟩
    refine ifd (fun c => ?_) (fun c => ⟨_, rfl, fd1 ho ⟨_, rfl, fd0 hf ⟨_, _, rfl, rfl, ?_⟩⟩⟩)
    · have e : apart f o = true := by
        unfold apart
        rw [decide_eq_true (show f.2 ≤ o.1 by omega), Bool.true_or]
      rw [← e]
      exact q
    · have e : apart f o = decide ((o.2 : Int) ≤ f.1) := by
        unfold apart
        rw [decide_eq_false (show ¬ f.2 ≤ o.1 by omega), Bool.false_or]
        exact decide_eq_decide.mpr ⟨fun _ => by omega, fun _ => by omega⟩
      rw [← e]
      exact q
theorem sc_clashes : FnScope ["fold", "other"] ["fold", "other"] (defScope s_clashes) := ⟨rfl, rfl, rfl, by decide +kernel, rfl, by decide +kernel, by decide +kernel⟩
-- slots of clashes: fold 0, other 1
theorem ok_clashes (T : Tx K mg A) : FnOk P w K mg base CX0 2 A.f_clashes A.d_clashes ["fold", "other"] (sp_two clash) := by
  refine T.t_clashes.F.ok sc_clashes (fun vs H Q E h => ?_) (fun cdv Ar outer s0 H vs Q E hr h => ?_)
  · obtain ⟨a, b, f, o, rfl, _⟩ := h
    rfl
  · obtain ⟨a, b, f, o, rfl, h⟩ := h
    refine ⟨_, (pss_cons (ps_if (pt_cmpR (op_eqD hr.units) (pv 0) (pv 1) (nomark _)) (pss_one (ps_ret (pe_bl))) pss_nil)
      (pss_one (ps_ret (pe_not (pe_or (pe_call (ok_is_apart T) (hr.mono (by decide)) (by rfl) T.t_is_apart.g T.t_is_apart.F.kp T.t_is_apart.b .nil pass0 (pa_cons (pv 0) (pa_cons (pv 1) pa_nil))) (pe_or (pe_call (ok_is_within T) (hr.mono (by decide)) (by rfl) T.t_is_within.g T.t_is_within.F.kp T.t_is_within.b .nil pass0 (pa_cons (pv 0) (pa_cons (pv 1) pa_nil))) (pe_one (pe_call (ok_is_within T) (hr.mono (by decide)) (by rfl) T.t_is_within.g T.t_is_within.F.kp T.t_is_within.b .nil pass0 (pa_cons (pv 1) (pa_cons (pv 0) pa_nil)))))))))), ?_⟩
    dsimp only [tRet, tRetN, tChain, tOp, tUn, tC, tVar, tSeq, tIfS, tAsg, gName, tTest, tB, tAnd, tOr, tNot, tAndV, tOrV, tNotV, tFld_eq, sFld_eq, sFldAug, L2.rAdd, L2.rSub, tCons, tNil, tLst, tTup, tCall, tMake, tCB, tCKw, tBM, tSl, tPart, tNoPart, tDrop, tNext, tBreak, iList, iRng1, iEnum, gTup, gCons, gNil, tAug, ipI, rI0, rI, rU, cxOf, Cx.nox, Cx.wish, L2.start, List.map, List.length, List.replicate, List.append]
    obtain ⟨hf, ho, q⟩ := h
    refine ⟨_, rfl, _, rfl, pD f, pD o, dp_fd hf, dp_fd ho, pD_shaped f, pD_shaped o, _, rfl, ?_⟩
    rw [pD_eqv]
    refine ifd (fun c => ?_) (fun c => ?_)
    · have e : clash f o = true := by
        unfold clash
        rw [decide_eq_true c, Bool.true_or]
      rw [← e]
      exact q
    · have e : clash f o = !(apart f o || (within f o || within o f)) := by
        unfold clash
        rw [decide_eq_false c, Bool.false_or]
      rw [e] at q
      refine ⟨_, rfl, _, rfl, a, b, f, o, rfl, hf, ho, _, rfl, ifb (fun c1 => ⟨_, rfl, ?_⟩) (fun c1 => ?_)⟩
      · rw [c1, Bool.true_or] at q
        exact q
      · rw [c1, Bool.false_or] at q
        refine ⟨_, rfl, _, rfl, a, b, f, o, rfl, hf, ho, _, rfl, ifb (fun c2 => ⟨_, rfl, ?_⟩) (fun c2 => ?_)⟩
        · rw [c2, Bool.true_or] at q
          exact q
        · rw [c2, Bool.false_or] at q
          exact ⟨_, rfl, _, rfl, b, a, o, f, rfl, ho, hf, _, rfl, q⟩
/-- a fold behind a change of lines -/
def fae (a b n : Nat) (f : Nat × Nat) : Option (Nat × Nat) := if f.2 ≤ a then some f else if b ≤ f.1 then some (f.1 + n - (b - a), f.2 + n - (b - a)) else if f.1 < a ∧ b ≤ f.2 ∧ a < f.2 then (if f.2 + n - (b - a) ≤ f.1 + 1 then none else some (f.1, f.2 + n - (b - a))) else none
theorem foldsBehind_eq (l : List (Nat × Nat)) (a b n : Nat) : Ue07.foldsBehind l a b n = Ue07.once (l.filterMap (fae a b n)) := rfl
def sp_fold_after_edit : Sp := fun vs H Q _ => ∃ (p : Addr) (f : Nat × Nat) (a b n : Nat), vs = [.ref p, .int a, .int b, .int ((n : Int) - ((b : Int) - (a : Int)))] ∧ FdAt H p f ∧ f.1 ≤ f.2 ∧ a ≤ b ∧
  (fae a b n f = none → Q .non H) ∧ (∀ m, fae a b n f = some m → ∀ H' t, Same H H' → FdAt H' t m → (t = p ∨ H t = none) → Q (.ref t) H')
theorem sc_fold_after_edit : FnScope ["fold", "begin", "behind", "grown"] ["fold", "begin", "behind", "grown"] (defScope s_fold_after_edit) := ⟨rfl, rfl, rfl, by decide +kernel, rfl, by decide +kernel, by decide +kernel⟩
-- slots of fold_after_edit: fold 0, begin 1, behind 2, grown 3
theorem ok_fold_after_edit (T : Tx K mg A) : FnOk P w K mg base CX0 1 A.f_fold_after_edit A.d_fold_after_edit ["fold", "begin", "behind", "grown"] (sp_fold_after_edit) := by
  refine T.t_fold_after_edit.F.ok sc_fold_after_edit (fun vs H Q E h => ?_) (fun cdv Ar outer s0 H vs Q E hr h => ?_)
  · obtain ⟨p, f, a, b, n, rfl, _⟩ := h
    rfl
  · obtain ⟨p, f, a, b, n, rfl, h⟩ := h
    refine ⟨_, (pss_cons (ps_if (pt_cmpR op_le (pe_ix ix_tup (pv 0) (pe_int) (fun _ _ => rfl)) (pv 1) (nomark _)) (pss_one (ps_ret (pv 0))) pss_nil)
      (pss_cons (ps_if (pt_cmpR op_ge (pe_ix ix_tup (pv 0) (pe_int) (fun _ _ => rfl)) (pv 2) (nomark _)) (pss_one (ps_ret (pe_tup (pa_cons (pe_op op_add (pe_ix ix_tup (pv 0) (pe_int) (fun _ _ => rfl)) (pv 3)) (pa_cons (pe_op op_add (pe_ix ix_tup (pv 0) (pe_int) (fun _ _ => rfl)) (pv 3)) pa_nil))))) pss_nil)
      (pss_cons (ps_if (PW.pt (pw_and (pt_cmpR op_lt (pe_ix ix_tup (pv 0) (pe_int) (fun _ _ => rfl)) (pv 1) (nomark _)) (pw_and (pt_cmpR op_le (pv 2) (pe_ix ix_tup (pv 0) (pe_int) (fun _ _ => rfl)) (nomark _)) (pw_and1 (pt_cmpR op_ge (pe_op op_sub (pe_op op_add (pe_ix ix_tup (pv 0) (pe_int) (fun _ _ => rfl)) (pv 3)) (pe_ix ix_tup (pv 0) (pe_int) (fun _ _ => rfl))) (pe_int) (nomark _)))))) (pss_one (ps_ret (pe_tup (pa_cons (pe_ix ix_tup (pv 0) (pe_int) (fun _ _ => rfl)) (pa_cons (pe_op op_add (pe_ix ix_tup (pv 0) (pe_int) (fun _ _ => rfl)) (pv 3)) pa_nil))))) pss_nil)
      (pss_one (ps_ret (pe_non)))))), ?_⟩
    dsimp only [tRet, tRetN, tChain, tOp, tUn, tC, tVar, tSeq, tIfS, tAsg, gName, tTest, tB, tAnd, tOr, tNot, tAndV, tOrV, tNotV, tFld_eq, sFld_eq, sFldAug, L2.rAdd, L2.rSub, tCons, tNil, tLst, tTup, tCall, tMake, tCB, tCKw, tBM, tSl, tPart, tNoPart, tDrop, tNext, tBreak, iList, iRng1, iEnum, gTup, gCons, gNil, tAug, ipI, rI0, rI, rU, cxOf, Cx.nox, Cx.wish, L2.start, List.map, List.length, List.replicate, List.append]
    obtain ⟨hf, hw, hab, qN, qS⟩ := h
    refine ⟨_, rfl, fd1 hf ⟨_, rfl, _, _, rfl, rfl, _, rfl, ifd (fun c => ⟨_, rfl, ?_⟩) (fun c => ?_)⟩⟩
    · exact qS f (if_pos (by omega)) H p (Same.refl _) hf (.inl rfl)
    have e1 : fae a b n f = if b ≤ f.1 then some (f.1 + n - (b - a), f.2 + n - (b - a)) else if f.1 < a ∧ b ≤ f.2 ∧ a < f.2 then (if f.2 + n - (b - a) ≤ f.1 + 1 then none else some (f.1, f.2 + n - (b - a))) else none := if_neg (by omega)
    refine ⟨_, rfl, fd0 hf ⟨_, rfl, _, _, rfl, rfl, _, rfl, ifd (fun c1 => ?_) (fun c1 => ?_)⟩⟩
    · refine ⟨_, rfl, fd0 hf ⟨_, rfl, _, _, rfl, rfl, _, rfl, fd1 hf ⟨_, rfl, _, _, rfl, rfl, sz (by decide), fun t nt => ?_⟩⟩⟩
      refine qS (f.1 + n - (b - a), f.2 + n - (b - a)) (e1.trans (if_pos (by omega))) _ t (same_upd nt) ?_ (.inr nt)
      show upd H t _ t = some (.tup [.int ((f.1 + n - (b - a) : Nat) : Int), .int ((f.2 + n - (b - a) : Nat) : Int)])
      rw [upd_same, show (f.1 : Int) + ((n : Int) - ((b : Int) - a)) = ((f.1 + n - (b - a) : Nat) : Int) by omega, show (f.2 : Int) + ((n : Int) - ((b : Int) - a)) = ((f.2 + n - (b - a) : Nat) : Int) by omega]
    have e2 : fae a b n f = if f.1 < a ∧ b ≤ f.2 ∧ a < f.2 then (if f.2 + n - (b - a) ≤ f.1 + 1 then none else some (f.1, f.2 + n - (b - a))) else none := e1.trans (if_neg (by omega))
    refine ⟨_, rfl, fd0 hf ⟨_, rfl, _, _, rfl, rfl, _, rfl, ifd (fun c2 => ?_) (fun c2 => ?_)⟩⟩
    · refine ⟨_, rfl, _, rfl, fd1 hf ⟨_, _, rfl, rfl, _, rfl, ifd (fun c3 => ?_) (fun c3 => ?_)⟩⟩
      · refine ⟨_, rfl, fd1 hf ⟨_, rfl, _, _, rfl, rfl, _, rfl, fd0 hf ⟨_, _, rfl, rfl, _, _, rfl, rfl, _, rfl, ifd (fun c4 => ?_) (fun c4 => ?_)⟩⟩⟩
        · refine ⟨_, rfl, fd0 hf ⟨_, rfl, fd1 hf ⟨_, rfl, _, _, rfl, rfl, sz (by decide), fun t nt => ?_⟩⟩⟩
          refine qS (f.1, f.2 + n - (b - a)) (e2.trans ((if_pos ⟨by omega, by omega, by omega⟩).trans (if_neg (by omega)))) _ t (same_upd nt) ?_ (.inr nt)
          show upd H t _ t = some (.tup [.int (f.1 : Int), .int ((f.2 + n - (b - a) : Nat) : Int)])
          rw [upd_same, show (f.2 : Int) + ((n : Int) - ((b : Int) - a)) = ((f.2 + n - (b - a) : Nat) : Int) by omega]
        · exact qN (e2.trans ((if_pos ⟨by omega, by omega, by omega⟩).trans (if_pos (by omega))))
      · exact qN (e2.trans (if_neg (by omega)))
    · exact qN (e2.trans (if_neg (by omega)))
theorem once_snoc (l : List (Nat × Nat)) (x : Nat × Nat) : Ue07.once (l ++ [x]) = if (Ue07.once l).contains x = true then Ue07.once l else Ue07.once l ++ [x] := by
  unfold Ue07.once
  rw [List.foldl_append]
  rfl
theorem any_pD (l : List (Nat × Nat)) (m : Nat × Nat) : ((l.map pD).any fun z => PyData.eqv z (pD m)) = l.contains m := by
  rw [List.any_map, List.contains_eq_any_beq]
  congr 1
  funext z
  show PyData.eqv (pD z) (pD m) = (m == z)
  rw [pD_eqv]
  by_cases h : z = m
  · rw [h]; simp
  · rw [decide_eq_false h]; exact (beq_eq_false_iff_ne.mpr (fun e => h e.symm)).symm
theorem once_len (l : List (Nat × Nat)) : (Ue07.once l).length ≤ l.length := by
  suffices ∀ (l acc : List (Nat × Nat)), (l.foldl (fun m f => if m.contains f = true then m else m ++ [f]) acc).length ≤ acc.length + l.length by
    have := this l []
    simp only [List.length_nil, Nat.zero_add] at this
    exact this
  intro l
  induction l with
  | nil => intro acc; simp
  | cons x l ih =>
    intro acc
    rw [List.foldl_cons]
    refine Nat.le_trans (ih _) ?_
    split
    · rw [List.length_cons]; omega
    · rw [List.length_append, List.length_cons, List.length_cons]; simp; omega
/-- kept of some folds -/
def keptF (a b n : Nat) (l : List (Nat × Nat)) : List (Nat × Nat) := Ue07.once (l.filterMap (fae a b n))
theorem keptF_len (a b n : Nat) (l : List (Nat × Nat)) : (keptF a b n l).length ≤ l.length := Nat.le_trans (once_len _) (List.length_filterMap_le _ _)
theorem keptF_none {a b n : Nat} {l : List (Nat × Nat)} {x : Nat × Nat} (h : fae a b n x = none) : keptF a b n (l ++ [x]) = keptF a b n l := by
  unfold keptF
  rw [List.filterMap_append, List.filterMap_cons_none h, List.filterMap_nil, List.append_nil]
theorem keptF_some {a b n : Nat} {l : List (Nat × Nat)} {x m : Nat × Nat} (h : fae a b n x = some m) : keptF a b n (l ++ [x]) = if (keptF a b n l).contains m = true then keptF a b n l else keptF a b n l ++ [m] := by
  unfold keptF
  rw [List.filterMap_append, List.filterMap_cons_some h, List.filterMap_nil, once_snoc]
def sp_folds_after_edit : Sp := fun vs H Q _ => ∃ (F : Addr) (ts : List V) (fs : List (Nat × Nat)) (a b n : Nat), vs = [.ref F, .int a, .int b, .int ((n : Int) - ((b : Int) - (a : Int)))] ∧ H F = some (.lst ts) ∧ All2 (FdV H) ts fs ∧ fs.length ≤ 12 ∧
  (∀ f ∈ fs, f.1 ≤ f.2) ∧ a ≤ b ∧ ∀ H' p ts', Same H H' → H p = none → H' p = some (.lst ts') → All2 (FdV H') ts' (Ue07.foldsBehind fs a b n) → (∀ z, H z ≠ none → V.ref z ∉ ts → V.ref z ∉ ts') → Q (.ref p) H'
theorem sc_folds_after_edit : FnScope ["folds", "begin", "behind", "grown", "kept", "fold", "moved"] ["folds", "begin", "behind", "grown"] (defScope s_folds_after_edit) := ⟨rfl, rfl, rfl, by decide +kernel, rfl, by decide +kernel, by decide +kernel⟩
-- slots of folds_after_edit: folds 0, begin 1, behind 2, grown 3, kept 4, fold 5, moved 6
theorem ok_folds_after_edit (T : Tx K mg A) : FnOk P w K mg base CX0 2 A.f_folds_after_edit A.d_folds_after_edit ["folds", "begin", "behind", "grown"] (sp_folds_after_edit) := by
  refine T.t_folds_after_edit.F.ok sc_folds_after_edit (fun vs H Q E h => ?_) (fun cdv Ar outer s0 H vs Q E hr h => ?_)
  · obtain ⟨F, ts, fs, a, b, n, rfl, _⟩ := h
    rfl
  · obtain ⟨F, ts, fs, a, b, n, rfl, h⟩ := h
    refine ⟨_, (pss_cons (ps_set (i := 4) sc_folds_after_edit.nd rfl (.inl rfl) (pe_lst pa_nil))
      (pss_cons (ps_for PassesOwn.never rfl (pi_list (pv 0)) (pg_name (i := 5) sc_folds_after_edit.nd rfl (.inl rfl)) (pss_cons (ps_set (i := 6) sc_folds_after_edit.nd rfl (.inl rfl) (pe_call (ok_fold_after_edit T) (hr.mono (by decide)) (by rfl) T.t_fold_after_edit.g T.t_fold_after_edit.F.kp T.t_fold_after_edit.b .nil pass0 (pa_cons (pv 5) (pa_cons (pv 1) (pa_cons (pv 2) (pa_cons (pv 3) pa_nil))))))
      (pss_one (ps_if (PW.pt (pw_and (pt_cmpR op_notN (pv 6) (pe_non) (nomark _)) (pw_and1 (pt_cmpR (op_notInD (hu65 hr)) (pv 6) (pv 4) (by rfl))))) (pss_one (ps_expr (pe_bm PySem.F.plainAttrs_list PySem.F.slot_list_append PySem.F.type_list_append mt_append (pv 4) (pa_cons (pv 6) pa_nil)))) pss_nil))))
      (pss_one (ps_ret (pv 4))))), ?_⟩
    dsimp only [tRet, tRetN, tChain, tOp, tUn, tC, tVar, tSeq, tIfS, tAsg, gName, tTest, tB, tAnd, tOr, tNot, tAndV, tOrV, tNotV, tFld_eq, sFld_eq, sFldAug, L2.rAdd, L2.rSub, tCons, tNil, tLst, tTup, tCall, tMake, tCB, tCKw, tBM, tSl, tPart, tNoPart, tDrop, tNext, tBreak, iList, iRng1, iEnum, gTup, gCons, gNil, tAug, ipI, rI0, rI, rU, cxOf, Cx.nox, Cx.wish, L2.start, List.map, List.length, List.replicate, List.append]
    obtain ⟨hF, hA, h12, hw, hab, q⟩ := h
    refine ⟨sz (by decide), fun p np => ?_⟩
    have s1 : Same H (upd H p (.lst [])) := same_upd np
    refine w_for ⟨_, rfl, F, rfl, ⟨_, SqL.of (s1 _ _ hF)⟩, ?_⟩
    refine forG_list (xs := ts) (fun i σ H' => (∃ v1 v2, σ = [some (.ref F), some (.int a), some (.int b), some (.int ((n : Int) - ((b : Int) - (a : Int)))), some (.ref p), v1, v2]) ∧ Same H H' ∧ ∃ ts', H' p = some (.lst ts') ∧ All2 (FdV H') ts' (keptF a b n (fs.take i)) ∧ ∀ z, H z ≠ none → V.ref z ∉ ts → V.ref z ∉ ts')
      ⟨⟨_, _, rfl⟩, s1, [], upd_same, .nil, fun _ _ _ h => by cases h⟩ (fun i σ H' _ ⟨_, s, _⟩ => SqL.of (s _ _ hF)) ?_ ?_
    · rintro i x σ H' hx ⟨⟨v1, v2, rfl⟩, s, ts', hp, hk, hav⟩
      obtain ⟨f, hf, t, rfl, ht⟩ := hA.get hx
      have htm : V.ref t ∈ ts := List.mem_of_getElem? hx
      refine ⟨_, rfl, _, rfl, _, rfl, _, rfl, t, f, a, b, n, rfl, s _ _ ht, hw f (List.mem_of_getElem? hf), hab, fun e => ?_, fun m e H2 t2 s2 ht2 hor => ?_⟩
      · refine ⟨_, rfl, rfl, _, rfl, ?_⟩
        refine iteNS rfl (iteF ⟨⟨_, _, rfl⟩, s, ts', hp, ?_, hav⟩)
        rw [take_snoc hf, keptF_none e]
        exact hk
      · have hp2 := s2 _ _ hp
        have hk2 := fds_same s2 hk
        refine ⟨_, rfl, rfl, _, rfl, ?_⟩
        refine ifn (by intro z; cases z) ?_
        refine ⟨_, rfl, _, rfl, pD m, (keptF a b n (fs.take i)).map pD, dp_fd ht2, .lst (SqL.of hp2) (dp_fds hk2), pD_shaped m, pDs_shaped _, _, rfl, ?_⟩
        rw [any_pD]
        have ek : keptF a b n (fs.take (i + 1)) = if (keptF a b n (fs.take i)).contains m = true then keptF a b n (fs.take i) else keptF a b n (fs.take i) ++ [m] := by rw [take_snoc hf, keptF_some e]
        refine ifb (fun c => ?_) (fun c => ?_)
        · have c' : (keptF a b n (fs.take i)).contains m = false := by simpa using c
          rw [c', if_neg (by decide)] at ek
          have hlen : ts'.length < sizeLine := szl (by
            rw [hk.len]
            have := keptF_len a b n (fs.take i)
            rw [List.length_take] at this
            omega)
          refine ⟨_, rfl, .inl ⟨rfl, _, SqL.of hp2⟩, _, rfl, p, ts', _, rfl, rfl, hp2, hlen, ?_⟩
          have nz : ∀ {z o}, H z = some o → z ≠ p := fun h => ne_of_none h np
          have s3 : ∀ y g, y ∈ ts' → FdV H2 y g → FdV (upd H2 p (.lst (ts' ++ [V.ref t2]))) y g := fun y g _ r => by
            obtain ⟨z, rfl, hz⟩ := r
            refine ⟨z, rfl, ?_⟩
            show upd H2 p _ z = _
            rw [upd_ne (ne_of hz hp2 (by intro z; cases z))]
            exact hz
          refine ⟨⟨_, _, rfl⟩, fun z o hz => ?_, ts' ++ [.ref t2], upd_same, ?_, fun z hz hn hm => ?_⟩
          · rw [upd_ne (nz hz)]
            exact s2 _ _ (s _ _ hz)
          · rw [ek]
            refine (hk2.mono s3).snoc ⟨t2, rfl, ?_⟩
            show upd H2 p _ t2 = _
            rw [upd_ne (ne_of ht2 hp2 (by intro z; cases z))]
            exact ht2
          · rcases List.mem_append.mp hm with h | h
            · exact hav z hz hn h
            · rw [List.mem_singleton] at h
              cases h
              rcases hor with rfl | hnew
              · exact hn htm
              · have := s.free hnew
                exact hz this
        · have c' : (keptF a b n (fs.take i)).contains m = true := by simpa using c
          rw [c', if_pos rfl] at ek
          refine ⟨⟨_, _, rfl⟩, s.trans s2, ts', hp2, ?_, hav⟩
          rw [ek]
          exact hk2
    · rintro σ H' ⟨⟨v1, v2, rfl⟩, s, ts', hp, hk, hav⟩
      rw [hA.len, List.take_length] at hk
      exact ⟨_, rfl, q H' p ts' s np hp hk hav⟩
end
end FV
namespace FV
open PySem PySem.Spec PyProof.Rows L2
/-! ### looks, rows, columns -/
theorem ifv {x y : Int} {A B : Prop} (h1 : x = y → A) (h2 : x ≠ y → B) : if decide (V.int x = V.int y) = true then A else B := ifd (fun c => h1 (V.int.inj c)) (fun c => h2 fun e => c (by rw [e]))
/-- a Look, a Row in the heap -/
def LkAt (A : Ad) (H : Hp) (a : Addr) (k : Ue07.Look) : Prop := ∃ dx, H a = some (.ins A.C_Look dx (lkF k))
def RwAt (A : Ad) (H : Hp) (a : Addr) (x : Nat × Ue07.Row) : Prop := ∃ dx, H a = some (.ins A.C_Row dx (rwF x))
def RwV (A : Ad) (H : Hp) (v : V) (x : Nat × Ue07.Row) : Prop := ∃ a, v = .ref a ∧ RwAt A H a x
theorem isBlank_in (b : Nat) : inV (.int b) [.int 9, .int 32] = Ue07.isBlank b := by
  have h9 : eqV (.int 9) (.int b) = (b == 9) := by
    show ((9 : Int) == (b : Int)) = (b == 9)
    exact Bool.eq_iff_iff.mpr (by rw [beq_iff_eq, beq_iff_eq]; omega)
  have h32 : eqV (.int 32) (.int b) = (b == 32) := by
    show ((32 : Int) == (b : Int)) = (b == 32)
    exact Bool.eq_iff_iff.mpr (by rw [beq_iff_eq, beq_iff_eq]; omega)
  show (eqV (.int 9) (.int b) || (eqV (.int 32) (.int b) || false)) = (b == 32 || b == 9)
  rw [h9, h32, Bool.or_false, Bool.or_comm]
section
variable {P : Program} {w : World} {K : PySem.W.Frag} {mg : Str → Option Value} {base : Heap} {A : Ad}
def sp_initLook (A : Ad) : Sp := fun vs H Q _ => ∃ (p dx : Addr) (k : Ue07.Look), vs = [.ref p, .int k.wide, .int k.tab, .int k.more, .int (b01 k.hang), .int (b01 k.words)] ∧ H p = some (.ins A.C_Look dx []) ∧
  ∀ H' : Hp, LkAt A H' p k → (∀ b o, H b = some o → b ≠ p → H' b = some o) → Q .non H'
theorem sc_initLook : FnScope ["self", "wide", "tab", "more", "hang", "words"] ["self", "wide", "tab", "more", "hang", "words"] (defScope s_initLook) := ⟨rfl, rfl, rfl, by decide +kernel, rfl, by decide +kernel, by decide +kernel⟩
-- slots of initLook: self 0, wide 1, tab 2, more 3, hang 4, words 5
theorem ok_initLook (T : Tx K mg A) : FnOk P w K mg base CX0 1 A.f_initLook A.d_initLook ["self", "wide", "tab", "more", "hang", "words"] (sp_initLook A) := by
  refine T.t_Look.F.ok sc_initLook (fun vs H Q E h => ?_) (fun cdv Ar outer s0 H vs Q E hr h => ?_)
  · obtain ⟨p, dx, k, rfl, _⟩ := h
    rfl
  · obtain ⟨p, dx, k, rfl, h⟩ := h
    refine ⟨_, (pss_cons (ps_fld (pv 0) (pv 1) rfl)
      (pss_cons (ps_fld (pv 0) (pv 2) rfl)
      (pss_cons (ps_fld (pv 0) (pv 3) rfl)
      (pss_cons (ps_fld (pv 0) (pv 4) rfl)
      (pss_one (ps_fld (pv 0) (pv 5) rfl)))))), ?_⟩
    dsimp only [tRet, tRetN, tChain, tOp, tUn, tC, tVar, tSeq, tIfS, tAsg, gName, tTest, tB, tAnd, tOr, tNot, tAndV, tOrV, tNotV, tFld_eq, sFld_eq, sFldAug, L2.rAdd, L2.rSub, tCons, tNil, tLst, tTup, tCall, tMake, tCB, tCKw, tBM, tSl, tPart, tNoPart, tDrop, tNext, tBreak, iList, iRng1, iEnum, gTup, gCons, gNil, tAug, ipI, rI0, rI, rU, cxOf, Cx.nox, Cx.wish, L2.start, List.map, List.length, List.replicate, List.append]
    obtain ⟨hp, q⟩ := h
    refine ⟨_, rfl, _, rfl, p, _, dx, _, rfl, hp, T.t_Look.c, T.n_Look_wide, (by show 0 < 1000; decide), ?_⟩
    refine ⟨_, rfl, _, rfl, p, _, dx, _, rfl, upd_same, T.t_Look.c, T.n_Look_tab, (by show 1 < 1000; decide), ?_⟩
    refine ⟨_, rfl, _, rfl, p, _, dx, _, rfl, upd_same, T.t_Look.c, T.n_Look_more, (by show 2 < 1000; decide), ?_⟩
    refine ⟨_, rfl, _, rfl, p, _, dx, _, rfl, upd_same, T.t_Look.c, T.n_Look_hang, (by show 3 < 1000; decide), ?_⟩
    refine ⟨_, rfl, _, rfl, p, _, dx, _, rfl, upd_same, T.t_Look.c, T.n_Look_words, (by show 4 < 1000; decide), ?_⟩
    refine q _ ⟨dx, by rw [upd_same, new_Look]; rfl⟩ fun b o e hb => by
      rw [upd_ne hb, upd_ne hb, upd_ne hb, upd_ne hb, upd_ne hb]
      exact e
def sp_initRow (A : Ad) : Sp := fun vs H Q _ => ∃ (p dx : Addr) (x : Nat × Ue07.Row), vs = [.ref p, .int x.1, .int x.2.a, .int x.2.b, .int x.2.col] ∧ H p = some (.ins A.C_Row dx []) ∧
  ∀ H' : Hp, RwAt A H' p x → (∀ b o, H b = some o → b ≠ p → H' b = some o) → Q .non H'
theorem sc_initRow : FnScope ["self", "line", "begin", "behind", "column"] ["self", "line", "begin", "behind", "column"] (defScope s_initRow) := ⟨rfl, rfl, rfl, by decide +kernel, rfl, by decide +kernel, by decide +kernel⟩
-- slots of initRow: self 0, line 1, begin 2, behind 3, column 4
theorem ok_initRow (T : Tx K mg A) : FnOk P w K mg base CX0 1 A.f_initRow A.d_initRow ["self", "line", "begin", "behind", "column"] (sp_initRow A) := by
  refine T.t_Row.F.ok sc_initRow (fun vs H Q E h => ?_) (fun cdv Ar outer s0 H vs Q E hr h => ?_)
  · obtain ⟨p, dx, k, rfl, _⟩ := h
    rfl
  · obtain ⟨p, dx, k, rfl, h⟩ := h
    refine ⟨_, (pss_cons (ps_fld (pv 0) (pv 1) rfl)
      (pss_cons (ps_fld (pv 0) (pv 2) rfl)
      (pss_cons (ps_fld (pv 0) (pv 3) rfl)
      (pss_one (ps_fld (pv 0) (pv 4) rfl))))), ?_⟩
    dsimp only [tRet, tRetN, tChain, tOp, tUn, tC, tVar, tSeq, tIfS, tAsg, gName, tTest, tB, tAnd, tOr, tNot, tAndV, tOrV, tNotV, tFld_eq, sFld_eq, sFldAug, L2.rAdd, L2.rSub, tCons, tNil, tLst, tTup, tCall, tMake, tCB, tCKw, tBM, tSl, tPart, tNoPart, tDrop, tNext, tBreak, iList, iRng1, iEnum, gTup, gCons, gNil, tAug, ipI, rI0, rI, rU, cxOf, Cx.nox, Cx.wish, L2.start, List.map, List.length, List.replicate, List.append]
    obtain ⟨hp, q⟩ := h
    refine ⟨_, rfl, _, rfl, p, _, dx, _, rfl, hp, T.t_Row.c, T.n_Row_line, (by show 0 < 1000; decide), ?_⟩
    refine ⟨_, rfl, _, rfl, p, _, dx, _, rfl, upd_same, T.t_Row.c, T.n_Row_begin, (by show 1 < 1000; decide), ?_⟩
    refine ⟨_, rfl, _, rfl, p, _, dx, _, rfl, upd_same, T.t_Row.c, T.n_Row_behind, (by show 2 < 1000; decide), ?_⟩
    refine ⟨_, rfl, _, rfl, p, _, dx, _, rfl, upd_same, T.t_Row.c, T.n_Row_column, (by show 3 < 1000; decide), ?_⟩
    refine q _ ⟨dx, by rw [upd_same, new_Row]; rfl⟩ fun b o e hb => by
      rw [upd_ne hb, upd_ne hb, upd_ne hb, upd_ne hb]
      exact e
def tabOk (k : Ue07.Look) : Prop := 1 ≤ k.tab ∧ k.tab ≤ 16
def sp_column_behind (A : Ad) : Sp := fun vs H Q _ => ∃ (lk : Addr) (k : Ue07.Look) (b c : Nat), vs = [.ref lk, .int b, .int c] ∧ LkAt A H lk k ∧ tabOk k ∧ Q (.int ((c + Ue07.cost k c b : Nat) : Int)) H
theorem sc_column_behind : FnScope ["look", "byte", "column"] ["look", "byte", "column"] (defScope s_column_behind) := ⟨rfl, rfl, rfl, by decide +kernel, rfl, by decide +kernel, by decide +kernel⟩
-- slots of column_behind: look 0, byte 1, column 2
theorem ok_column_behind (T : Tx K mg A) : FnOk P w K mg base CX0 1 A.f_column_behind A.d_column_behind ["look", "byte", "column"] (sp_column_behind A) := by
  refine T.t_column_behind.F.ok sc_column_behind (fun vs H Q E h => ?_) (fun cdv Ar outer s0 H vs Q E hr h => ?_)
  · obtain ⟨lk, k, b, c, rfl, _⟩ := h
    rfl
  · obtain ⟨lk, k, b, c, rfl, h⟩ := h
    refine ⟨_, (pss_cons (ps_if (pt_cmpR op_eq (pv 1) (pe_gi rfl T.v_TAB) (nomark _)) (pss_one (ps_ret (pe_op op_mul (pe_op op_add (pe_op op_fdiv (pv 2) (pe_fld (pv 0) rfl)) (pe_int)) (pe_fld (pv 0) rfl)))) pss_nil)
      (pss_cons (ps_if (PW.pt (pw_or (pt_cmpR op_lt (pv 1) (pe_int) (nomark _)) (pw_or1 (pt_cmpR op_eq (pv 1) (pe_int) (nomark _))))) (pss_one (ps_ret (pe_op op_add (pv 2) (pe_int)))) pss_nil)
      (pss_one (ps_ret (pe_op op_add (pv 2) (pe_int)))))), ?_⟩
    dsimp only [tRet, tRetN, tChain, tOp, tUn, tC, tVar, tSeq, tIfS, tAsg, gName, tTest, tB, tAnd, tOr, tNot, tAndV, tOrV, tNotV, tFld_eq, sFld_eq, sFldAug, L2.rAdd, L2.rSub, tCons, tNil, tLst, tTup, tCall, tMake, tCB, tCKw, tBM, tSl, tPart, tNoPart, tDrop, tNext, tBreak, iList, iRng1, iEnum, gTup, gCons, gNil, tAug, ipI, rI0, rI, rU, cxOf, Cx.nox, Cx.wish, L2.start, List.map, List.length, List.replicate, List.append]
    obtain ⟨⟨dl, hl⟩, ht, q⟩ := h
    have h1 : 1 ≤ k.tab := ht.1
    have h2 : k.tab ≤ 16 := ht.2
    refine ⟨_, rfl, rfl, _, rfl, ifv (fun e => ?_) (fun e => ?_)⟩
    · refine ⟨_, rfl, _, rfl, r_Look_tab T hl ?_⟩
      refine ⟨_, _, rfl, rfl, ⟨by omega, by omega⟩, _, _, rfl, rfl, _, rfl, r_Look_tab T hl ?_⟩
      refine ⟨_, _, rfl, rfl, .inr ⟨by omega, by omega⟩, ?_⟩
      have e1 : c + Ue07.cost k c b = (c / k.tab + 1) * k.tab := by
        unfold Ue07.cost
        rw [if_pos (by omega), tab_up h1]
      have e2 : ((c : Int) / (k.tab : Int) + 1) * (k.tab : Int) = (((c / k.tab + 1) * k.tab : Nat) : Int) := by
        rw [Int.natCast_mul, Int.natCast_add, Int.natCast_ediv]
        rfl
      rw [e2, ← e1]
      exact q
    · have e0 : Ue07.cost k c b = if b < 32 ∨ b = 127 then 2 else 1 := if_neg (by omega)
      refine ⟨_, rfl, _, _, rfl, rfl, _, rfl, ifd (fun c1 => ?_) (fun c1 => ?_)⟩
      · refine iteT ⟨_, rfl, _, _, rfl, rfl, ?_⟩
        rw [e0, if_pos (.inl (by omega))] at q
        exact q
      · refine ⟨_, rfl, rfl, _, rfl, ifv (fun c2 => ?_) (fun c2 => ?_)⟩
        · refine ⟨_, rfl, _, _, rfl, rfl, ?_⟩
          rw [e0, if_pos (.inr (by omega))] at q
          exact q
        · refine ⟨_, rfl, _, _, rfl, rfl, ?_⟩
          rw [e0, if_neg (by omega)] at q
          exact q
def sp_column_after (A : Ad) (K : PySem.W.Frag) : Sp := fun vs H Q _ => ∃ (lk a : Addr) (k : Ue07.Look) (w : List Nat) (c : Nat), vs = [.ref lk, .ref a, .int c] ∧ LkAt A H lk k ∧ tabOk k ∧ SqL K H a (nV w) ∧ Q (.int ((Ue07.behind k c w : Nat) : Int)) H
theorem behind_snoc {k : Ue07.Look} {c i b : Nat} {w : List Nat} (h : w[i]? = some b) : Ue07.behind k c (w.take (i + 1)) = Ue07.behind k c (w.take i) + Ue07.cost k (Ue07.behind k c (w.take i)) b := by
  unfold Ue07.behind
  rw [take_snoc h, List.foldl_append]
  rfl
theorem sc_column_after : FnScope ["look", "some", "column", "byte"] ["look", "some", "column"] (defScope s_column_after) := ⟨rfl, rfl, rfl, by decide +kernel, rfl, by decide +kernel, by decide +kernel⟩
-- slots of column_after: look 0, some 1, column 2, byte 3
theorem ok_column_after (T : Tx K mg A) : FnOk P w K mg base CX0 2 A.f_column_after A.d_column_after ["look", "some", "column"] (sp_column_after A K) := by
  refine T.t_column_after.F.ok sc_column_after (fun vs H Q E h => ?_) (fun cdv Ar outer s0 H vs Q E hr h => ?_)
  · obtain ⟨lk, a, k, w, c, rfl, _⟩ := h
    rfl
  · obtain ⟨lk, a, k, w, c, rfl, h⟩ := h
    refine ⟨_, (pss_cons (ps_for PassesOwn.never rfl (pi_list (pv 1)) (pg_name (i := 3) sc_column_after.nd rfl (.inl rfl)) (pss_one (ps_set (i := 2) sc_column_after.nd rfl (.inl rfl) (pe_call (ok_column_behind T) (hr.mono (by decide)) (by rfl) T.t_column_behind.g T.t_column_behind.F.kp T.t_column_behind.b .nil pass0 (pa_cons (pv 0) (pa_cons (pv 3) (pa_cons (pv 2) pa_nil)))))))
      (pss_one (ps_ret (pv 2)))), ?_⟩
    dsimp only [tRet, tRetN, tChain, tOp, tUn, tC, tVar, tSeq, tIfS, tAsg, gName, tTest, tB, tAnd, tOr, tNot, tAndV, tOrV, tNotV, tFld_eq, sFld_eq, sFldAug, L2.rAdd, L2.rSub, tCons, tNil, tLst, tTup, tCall, tMake, tCB, tCKw, tBM, tSl, tPart, tNoPart, tDrop, tNext, tBreak, iList, iRng1, iEnum, gTup, gCons, gNil, tAug, ipI, rI0, rI, rU, cxOf, Cx.nox, Cx.wish, L2.start, List.map, List.length, List.replicate, List.append]
    obtain ⟨hl, ht, ha, q⟩ := h
    refine w_for ⟨_, rfl, a, rfl, ⟨_, ha⟩, ?_⟩
    refine forG_list (xs := nV w) (fun i σ H' => H' = H ∧ ∃ v, σ = [some (.ref lk), some (.ref a), some (.int ((Ue07.behind k c (w.take i) : Nat) : Int)), v]) ⟨rfl, _, rfl⟩ (fun i σ H' _ ⟨e, _⟩ => by rw [e]; exact ha) ?_ ?_
    · rintro i x σ H' hx ⟨rfl, v, rfl⟩
      obtain ⟨b, hb, rfl⟩ := of_nV hx
      refine ⟨_, rfl, _, rfl, _, rfl, lk, k, b, _, rfl, hl, ht, rfl, some (.int b), ?_⟩
      rw [behind_snoc hb]
      rfl
    · rintro σ H' ⟨rfl, v, rfl⟩
      refine ⟨_, rfl, ?_⟩
      rw [nV_len, List.take_length]
      exact q
def sp_blanks_end (K : PySem.W.Frag) : Sp := fun vs H Q _ => ∃ (a : Addr) (w : List Nat) (b : Nat), vs = [.ref a, .int b] ∧ SqL K H a (nV w) ∧ b ≤ w.length ∧ Q (.int ((b + blanksN (w.drop b) : Nat) : Int)) H
theorem sc_blanks_end : FnScope ["line", "begin", "behind"] ["line", "begin"] (defScope s_blanks_end) := ⟨rfl, rfl, rfl, by decide +kernel, rfl, by decide +kernel, by decide +kernel⟩
-- slots of blanks_end: line 0, begin 1, behind 2
theorem ok_blanks_end (T : Tx K mg A) : FnOk P w K mg base CX0 1 A.f_blanks_end A.d_blanks_end ["line", "begin"] (sp_blanks_end K) := by
  refine T.t_blanks_end.F.ok sc_blanks_end (fun vs H Q E h => ?_) (fun cdv Ar outer s0 H vs Q E hr h => ?_)
  · obtain ⟨a, w, b, rfl, _⟩ := h
    rfl
  · obtain ⟨a, w, b, rfl, h⟩ := h
    refine ⟨_, (pss_cons (ps_set (i := 2) sc_blanks_end.nd rfl (.inl rfl) (pv 1))
      (pss_cons (ps_while PassesOwn.never (PW.pt (pw_and (pt_cmpR op_lt (pv 2) (pe_callB call_len_seq (by rfl) T.z_len PySem.boot_len (pa_cons (pv 0) pa_nil)) (nomark _)) (pw_and1 (pt_cmpR op_in_seq (pe_ix ix_list (pv 0) (pv 2) (fun _ _ => rfl)) (pe_glob (v := .ref A.a_BLANKS) rfl T.v_BLANKS rfl) (by rfl))))) (pss_one (ps_aug (i := 2) sc_blanks_end.nd rfl (.inl rfl) (pe_int) ip_add)))
      (pss_one (ps_ret (pv 2))))), ?_⟩
    dsimp only [tRet, tRetN, tChain, tOp, tUn, tC, tVar, tSeq, tIfS, tAsg, gName, tTest, tB, tAnd, tOr, tNot, tAndV, tOrV, tNotV, tFld_eq, sFld_eq, sFldAug, L2.rAdd, L2.rSub, tCons, tNil, tLst, tTup, tCall, tMake, tCB, tCKw, tBM, tSl, tPart, tNoPart, tDrop, tNext, tBreak, iList, iRng1, iEnum, gTup, gCons, gNil, tAug, ipI, rI0, rI, rU, cxOf, Cx.nox, Cx.wish, L2.start, List.map, List.length, List.replicate, List.append]
    obtain ⟨ha, hb, q⟩ := h
    refine ⟨_, rfl, ?_⟩
    refine ⟨fun m σ H' => H' = H ∧ ∃ j : Nat, j ≤ w.length ∧ m = w.length - j ∧ σ = [some (.ref a), some (.int b), some (.int j)] ∧ j + blanksN (w.drop j) = b + blanksN (w.drop b), ⟨_, rfl, b, hb, rfl, rfl, rfl⟩, ?_⟩
    rintro m σ H' ⟨rfl, j, hj, rfl, rfl, e⟩
    refine ⟨_, rfl, _, rfl, a, _, rfl, .inl ha, _, _, rfl, rfl, _, rfl, ifd (fun c => ?_) (fun c => ?_)⟩
    · rw [nV_len] at c
      have hj2 : j < w.length := by omega
      have hg : w[j]? = some w[j] := List.getElem?_eq_getElem hj2
      have hd : w.drop j = w[j] :: w.drop (j + 1) := List.drop_eq_getElem_cons hj2
      refine ⟨_, rfl, _, rfl, a, _, _, _, rfl, rfl, ha, atI_nat (nV_get hg), _, _, rfl, .inr (T.q_BLANKS _), rfl, rfl, _, rfl, ?_⟩
      rw [if_neg (by decide), isBlank_in]
      refine ifb (fun c1 => ?_) (fun c1 => ?_)
      · refine ⟨_, fun _ _ h => h, _, rfl, _, _, rfl, rfl, ?_⟩
        refine ⟨_, ?_, rfl, j + 1, hj2, rfl, rfl, ?_⟩
        · omega
        · rw [hd, blanksN_cons, if_pos c1] at e
          omega
      · refine ⟨_, rfl, ?_⟩
        rw [hd, blanksN_cons, if_neg (by simp [c1]), Nat.add_zero] at e
        rw [← e] at q
        exact q
    · rw [nV_len] at c
      refine iteF ⟨_, rfl, ?_⟩
      have : j = w.length := by omega
      rw [this, List.drop_length] at e
      rw [← e] at q
      rw [this]
      exact q
end
end FV
namespace FV
open PySem PySem.Spec PyProof.Rows L2
/-! ### slices, least and greatest -/
theorem cut_to (xs : List V) (m : Nat) : cutV xs none (some (m : Int)) = xs.take m := by
  unfold cutV
  rw [HT.sIx_none, HT.sIx_nat, List.drop_zero, Nat.sub_zero]
  by_cases h : m ≤ xs.length
  · rw [Nat.min_eq_left h]
  · rw [Nat.min_eq_right (by omega), List.take_length, List.take_of_length_le (by omega)]
theorem cut_from (xs : List V) (m : Nat) : cutV xs (some (m : Int)) none = xs.drop m := by
  unfold cutV
  rw [HT.sIx_none, HT.sIx_nat]
  by_cases h : m ≤ xs.length
  · rw [Nat.min_eq_left h, List.take_of_length_le (by rw [List.length_drop]; omega)]
  · rw [Nat.min_eq_right (by omega), List.drop_length, List.drop_eq_nil_of_le (by omega), List.take_nil]
theorem cut_mid (xs : List V) (a b : Nat) : cutV xs (some (a : Int)) (some (b : Int)) = (xs.take b).drop a := by
  unfold cutV
  rw [HT.sIx_nat, HT.sIx_nat, List.drop_take]
  by_cases h : a ≤ xs.length
  · rw [Nat.min_eq_left h]
    by_cases h2 : b ≤ xs.length
    · rw [Nat.min_eq_left h2]
    · rw [Nat.min_eq_right (by omega), List.take_of_length_le (by rw [List.length_drop]; omega), List.take_of_length_le (by rw [List.length_drop]; omega)]
  · rw [Nat.min_eq_right (show xs.length ≤ a by omega), List.drop_length, List.drop_eq_nil_of_le (show xs.length ≤ a by omega), List.take_nil, List.take_nil]
theorem nV_take (w : List Nat) (m : Nat) : (nV w).take m = nV (w.take m) := List.map_take.symm
theorem nV_drop (w : List Nat) (m : Nat) : (nV w).drop m = nV (w.drop m) := List.map_drop.symm
theorem min2 (i j : Nat) : (if (j : Int) < (i : Int) then (j : Int) else (i : Int)) = ((min i j : Nat) : Int) := by
  split <;> omega
theorem max2 (i j : Nat) : (if (j : Int) > (i : Int) then (j : Int) else (i : Int)) = ((max i j : Nat) : Int) := by
  split <;> omega
section
variable {P : Program} {w : World} {K : PySem.W.Frag} {mg : Str → Option Value} {base : Heap} {A : Ad}
theorem LkAt.same {H H' : Hp} (s : Same H H') {a : Addr} {k : Ue07.Look} (h : LkAt A H a k) : LkAt A H' a k := let ⟨d, e⟩ := h; ⟨d, s _ _ e⟩
theorem RwAt.same {H H' : Hp} (s : Same H H') {a : Addr} {k : Nat × Ue07.Row} (h : RwAt A H a k) : RwAt A H' a k := let ⟨d, e⟩ := h; ⟨d, s _ _ e⟩
theorem RwV.same {H H' : Hp} (s : Same H H') {a : V} {k : Nat × Ue07.Row} (h : RwV A H a k) : RwV A H' a k := let ⟨d, e, r⟩ := h; ⟨d, e, r.same s⟩
theorem rws_same {H H' : Hp} (s : Same H H') {xs : List V} {l : List (Nat × Ue07.Row)} (h : All2 (RwV A H) xs l) : All2 (RwV A H') xs l := h.mono fun _ _ _ r => r.same s
def sp_inset_of (A : Ad) (K : PySem.W.Frag) : Sp := fun vs H Q _ => ∃ (lk a : Addr) (k : Ue07.Look) (w : List Nat), vs = [.ref lk, .ref a] ∧ LkAt A H lk k ∧ tabOk k ∧ SqL K H a (nV w) ∧ ∀ H', Same H H' → Q (.int ((Ue07.inset k w : Nat) : Int)) H'
theorem sc_inset_of : FnScope ["look", "line", "inset"] ["look", "line"] (defScope s_inset_of) := ⟨rfl, rfl, rfl, by decide +kernel, rfl, by decide +kernel, by decide +kernel⟩
-- slots of inset_of: look 0, line 1, inset 2
theorem ok_inset_of (T : Tx K mg A) : FnOk P w K mg base CX0 3 A.f_inset_of A.d_inset_of ["look", "line"] (sp_inset_of A K) := by
  refine T.t_inset_of.F.ok sc_inset_of (fun vs H Q E h => ?_) (fun cdv Ar outer s0 H vs Q E hr h => ?_)
  · obtain ⟨lk, a, k, w, rfl, _⟩ := h
    rfl
  · obtain ⟨lk, a, k, w, rfl, h⟩ := h
    refine ⟨_, (pss_cons (ps_set (i := 2) sc_inset_of.nd rfl (.inl rfl) (pe_fld (pv 0) rfl))
      (pss_cons (ps_if (pt_cmpR op_eq (pe_fld (pv 0) rfl) (pe_int) (nomark _)) (pss_one (ps_aug (i := 2) sc_inset_of.nd rfl (.inl rfl) (pe_call (ok_column_after T) (hr.mono (by decide)) (by rfl) T.t_column_after.g T.t_column_after.F.kp T.t_column_after.b .nil pass0 (pa_cons (pv 0) (pa_cons (pe_slice sl_list (pv 1) po_none (po_some (pe_call (ok_blanks_end T) (hr.mono (by decide)) (by rfl) T.t_blanks_end.g T.t_blanks_end.F.kp T.t_blanks_end.b .nil pass0 (pa_cons (pv 1) (pa_cons (pe_int) pa_nil))))) (pa_cons (pe_int) pa_nil)))) ip_add)) pss_nil)
      (pss_cons (ps_if (pt_cmpR op_lt (pe_op op_add (pv 2) (pe_int)) (pe_fld (pv 0) rfl) (nomark _)) (pss_one (ps_ret (pv 2))) pss_nil)
      (pss_one (ps_ret (pe_int)))))), ?_⟩
    dsimp only [tRet, tRetN, tChain, tOp, tUn, tC, tVar, tSeq, tIfS, tAsg, gName, tTest, tB, tAnd, tOr, tNot, tAndV, tOrV, tNotV, tFld_eq, sFld_eq, sFldAug, L2.rAdd, L2.rSub, tCons, tNil, tLst, tTup, tCall, tMake, tCB, tCKw, tBM, tSl, tPart, tNoPart, tDrop, tNext, tBreak, iList, iRng1, iEnum, gTup, gCons, gNil, tAug, ipI, rI0, rI, rU, cxOf, Cx.nox, Cx.wish, L2.start, List.map, List.length, List.replicate, List.append]
    obtain ⟨⟨dl, hl⟩, ht, ha, q⟩ := h
    refine ⟨_, rfl, r_Look_more T hl ?_⟩
    refine ⟨_, rfl, r_Look_hang T hl ?_⟩
    have fin : ∀ (n : Nat) (H' : Hp), Same H H' → n = k.more + (if k.hang = true then Ue07.behind k 0 (w.takeWhile Ue07.isBlank) else 0) → (if decide ((n : Int) + 1 < (k.wide : Int)) = true then Q (.int (n : Int)) H' else Q (.int 0) H') := fun n H' s e => by
      have ei : Ue07.inset k w = if k.wide ≤ n + 1 then 0 else n := by
        unfold Ue07.inset
        rw [e]
      have q' := q H' s
      rw [ei] at q'
      refine ifd (fun c => ?_) (fun c => ?_)
      · rw [if_neg (by omega)] at q'
        exact q'
      · rw [if_pos (by omega)] at q'
        exact q'
    refine ⟨rfl, _, rfl, ?_⟩
    cases hh : k.hang with
    | true =>
      refine ifv (fun _ => ?_) (fun e => absurd rfl e)
      refine ⟨_, rfl, _, rfl, _, rfl, _, rfl, a, w, 0, rfl, ha, Nat.zero_le _, _, rfl, a, _, rfl, ha, fun p np => ?_⟩
      have s1 : Same H (upd H p (.lst (cutV (nV w) none (some ((0 + blanksN (w.drop 0) : Nat) : Int))))) := same_upd np
      have e1 : cutV (nV w) none (some ((0 + blanksN (w.drop 0) : Nat) : Int)) = nV (w.takeWhile Ue07.isBlank) := by
        rw [cut_to, nV_take, List.drop_zero, Nat.zero_add, take_blanksN]
      rw [e1] at s1 ⊢
      refine ⟨lk, p, k, w.takeWhile Ue07.isBlank, 0, rfl, ⟨dl, s1 _ _ hl⟩, ht, SqL.of upd_same, _, _, rfl, rfl, _, rfl, _, _, rfl, rfl, _, rfl, r_Look_wide T (s1 _ _ hl) ?_⟩
      refine ⟨_, _, rfl, rfl, _, rfl, ?_⟩
      have f := fin (k.more + Ue07.behind k 0 (w.takeWhile Ue07.isBlank)) _ s1 (by rw [hh, if_pos rfl])
      exact ifd (fun c => ⟨_, rfl, by rw [decide_eq_true (show ((k.more + Ue07.behind k 0 (w.takeWhile Ue07.isBlank) : Nat) : Int) + 1 < (k.wide : Int) from c)] at f; exact f⟩) (fun c => by rw [decide_eq_false (show ¬ ((k.more + Ue07.behind k 0 (w.takeWhile Ue07.isBlank) : Nat) : Int) + 1 < (k.wide : Int) from c)] at f; exact f)
    | false =>
      refine ifv (fun e => absurd e (by decide)) (fun _ => ?_)
      refine ⟨_, rfl, _, _, rfl, rfl, _, rfl, r_Look_wide T hl ?_⟩
      refine ⟨_, _, rfl, rfl, _, rfl, ?_⟩
      have f := fin k.more H (Same.refl H) (by rw [hh, if_neg (by decide), Nat.add_zero])
      exact ifd (fun c => ⟨_, rfl, by rw [decide_eq_true c] at f; exact f⟩) (fun c => by rw [decide_eq_false c] at f; exact f)
def sp_fitting_end (A : Ad) (K : PySem.W.Frag) : Sp := fun vs H Q _ => ∃ (lk a : Addr) (k : Ue07.Look) (w : List Nat) (b c : Nat), vs = [.ref lk, .ref a, .int b, .int c] ∧ LkAt A H lk k ∧ tabOk k ∧ SqL K H a (nV w) ∧ b ≤ w.length ∧ Q (.int ((b + fitL k true c (w.drop b) : Nat) : Int)) H
theorem sc_fitting_end : FnScope ["look", "line", "begin", "column", "behind"] ["look", "line", "begin", "column"] (defScope s_fitting_end) := ⟨rfl, rfl, rfl, by decide +kernel, rfl, by decide +kernel, by decide +kernel⟩
-- slots of fitting_end: look 0, line 1, begin 2, column 3, behind 4
theorem ok_fitting_end (T : Tx K mg A) : FnOk P w K mg base CX0 2 A.f_fitting_end A.d_fitting_end ["look", "line", "begin", "column"] (sp_fitting_end A K) := by
  refine T.t_fitting_end.F.ok sc_fitting_end (fun vs H Q E h => ?_) (fun cdv Ar outer s0 H vs Q E hr h => ?_)
  · obtain ⟨lk, a, k, w, b, c, rfl, _⟩ := h
    rfl
  · obtain ⟨lk, a, k, w, b, c, rfl, h⟩ := h
    refine ⟨_, (pss_cons (ps_set (i := 4) sc_fitting_end.nd rfl (.inl rfl) (pv 2))
      (pss_cons (ps_while PassesOwn.never (pt_cmpR op_lt (pv 4) (pe_callB call_len_seq (by rfl) T.z_len PySem.boot_len (pa_cons (pv 1) pa_nil)) (nomark _)) (pss_cons (ps_set (i := 3) sc_fitting_end.nd rfl (.inl rfl) (pe_call (ok_column_behind T) (hr.mono (by decide)) (by rfl) T.t_column_behind.g T.t_column_behind.F.kp T.t_column_behind.b .nil pass0 (pa_cons (pv 0) (pa_cons (pe_ix ix_list (pv 1) (pv 4) (fun _ _ => rfl)) (pa_cons (pv 3) pa_nil)))))
      (pss_cons (ps_if (PW.pt (pw_and (pt_cmpR op_gt (pv 3) (pe_fld (pv 0) rfl) (nomark _)) (pw_and1 (pt_cmpR op_gt (pv 4) (pv 2) (nomark _))))) (pss_one ps_break) pss_nil)
      (pss_one (ps_aug (i := 4) sc_fitting_end.nd rfl (.inl rfl) (pe_int) ip_add)))))
      (pss_one (ps_ret (pv 4))))), ?_⟩
    dsimp only [tRet, tRetN, tChain, tOp, tUn, tC, tVar, tSeq, tIfS, tAsg, gName, tTest, tB, tAnd, tOr, tNot, tAndV, tOrV, tNotV, tFld_eq, sFld_eq, sFldAug, L2.rAdd, L2.rSub, tCons, tNil, tLst, tTup, tCall, tMake, tCB, tCKw, tBM, tSl, tPart, tNoPart, tDrop, tNext, tBreak, iList, iRng1, iEnum, gTup, gCons, gNil, tAug, ipI, rI0, rI, rU, cxOf, Cx.nox, Cx.wish, L2.start, List.map, List.length, List.replicate, List.append]
    obtain ⟨⟨dl, hl⟩, ht, ha, hb, q⟩ := h
    refine ⟨_, rfl, ?_⟩
    refine ⟨fun m σ H' => H' = H ∧ ∃ j c' : Nat, b ≤ j ∧ j ≤ w.length ∧ m = w.length - j ∧ σ = [some (.ref lk), some (.ref a), some (.int b), some (.int c'), some (.int j)] ∧ j + fitL k (decide (j = b)) c' (w.drop j) = b + fitL k true c (w.drop b), ⟨_, rfl, b, c, Nat.le_refl _, hb, rfl, rfl, by rw [decide_eq_true rfl]⟩, ?_⟩
    rintro m σ H' ⟨rfl, j, c', hbj, hj, rfl, rfl, e⟩
    refine ⟨_, rfl, _, rfl, a, _, rfl, .inl ha, _, _, rfl, rfl, _, rfl, ifd (fun cc => ?_) (fun cc => ?_)⟩
    · rw [nV_len] at cc
      have hj2 : j < w.length := by omega
      have hg : w[j]? = some w[j] := List.getElem?_eq_getElem hj2
      have hd : w.drop j = w[j] :: w.drop (j + 1) := List.drop_eq_getElem_cons hj2
      rw [hd] at e
      have e' : j + (if k.wide < c' + Ue07.cost k c' w[j] ∧ decide (j = b) = false then 0 else fitL k false (c' + Ue07.cost k c' w[j]) (w.drop (j + 1)) + 1) = b + fitL k true c (w.drop b) := e
      refine ⟨_, fun _ _ h => h, _, rfl, _, rfl, _, rfl, a, _, _, _, rfl, rfl, ha, atI_nat (nV_get hg), _, rfl, lk, k, _, c', rfl, ⟨dl, hl⟩, ht, ?_⟩
      refine ⟨_, rfl, _, rfl, r_Look_wide T hl ?_⟩
      have go : ¬ (k.wide < c' + Ue07.cost k c' w[j] ∧ decide (j = b) = false) → ∃ m', m' < w.length - j ∧ H' = H' ∧ ∃ j2 c2 : Nat, b ≤ j2 ∧ j2 ≤ w.length ∧ m' = w.length - j2 ∧ [some (V.ref lk), some (.ref a), some (.int b), some (.int ((c' + Ue07.cost k c' w[j] : Nat) : Int)), some (.int ((j : Int) + 1))] = [some (.ref lk), some (.ref a), some (.int b), some (.int c2), some (.int j2)] ∧ j2 + fitL k (decide (j2 = b)) c2 (w.drop j2) = b + fitL k true c (w.drop b) := fun hn => by
        rw [if_neg hn] at e'
        refine ⟨w.length - (j + 1), by omega, rfl, j + 1, _, by omega, hj2, rfl, rfl, ?_⟩
        rw [decide_eq_false (show ¬ j + 1 = b by omega)]
        omega
      refine ⟨_, _, rfl, rfl, _, rfl, ifd (fun c1 => ?_) (fun c1 => ?_)⟩
      · refine ⟨_, rfl, _, rfl, _, _, rfl, rfl, _, rfl, ifd (fun c2 => ?_) (fun c2 => ?_)⟩
        · refine ⟨_, rfl, ?_⟩
          rw [if_pos ⟨by omega, decide_eq_false (by omega)⟩, Nat.add_zero] at e'
          rw [← e'] at q
          exact q
        · exact ⟨_, rfl, _, _, rfl, rfl, go (fun z => by have := of_decide_eq_false z.2; omega)⟩
      · exact iteF ⟨_, rfl, _, _, rfl, rfl, go (fun z => by omega)⟩
    · rw [nV_len] at cc
      refine ⟨_, rfl, ?_⟩
      have : j = w.length := by omega
      rw [this, List.drop_length] at e
      have e2 : w.length + 0 = b + fitL k true c (w.drop b) := e
      rw [← e2] at q
      rw [this]
      exact q
def sp_last_blank_end (K : PySem.W.Frag) : Sp := fun vs H Q _ => ∃ (a : Addr) (w : List Nat) (b e : Nat), vs = [.ref a, .int b, .int e] ∧ SqL K H a (nV w) ∧ b ≤ e ∧ e ≤ w.length ∧ Q (.int ((b + lastB ((w.drop b).take (e - b)) : Nat) : Int)) H
theorem sc_last_blank_end : FnScope ["line", "begin", "behind"] ["line", "begin", "behind"] (defScope s_last_blank_end) := ⟨rfl, rfl, rfl, by decide +kernel, rfl, by decide +kernel, by decide +kernel⟩
-- slots of last_blank_end: line 0, begin 1, behind 2
theorem ok_last_blank_end (T : Tx K mg A) : FnOk P w K mg base CX0 1 A.f_last_blank_end A.d_last_blank_end ["line", "begin", "behind"] (sp_last_blank_end K) := by
  refine T.t_last_blank_end.F.ok sc_last_blank_end (fun vs H Q E h => ?_) (fun cdv Ar outer s0 H vs Q E hr h => ?_)
  · obtain ⟨a, w, b, e, rfl, _⟩ := h
    rfl
  · obtain ⟨a, w, b, e, rfl, h⟩ := h
    refine ⟨_, (pss_cons (ps_while PassesOwn.never (PW.pt (pw_and (pt_cmpR op_gt (pv 2) (pv 1) (nomark _)) (pw_and1 (pt_cmpR op_notIn_seq (pe_ix ix_list (pv 0) (pe_op op_sub (pv 2) (pe_int)) (fun _ _ => rfl)) (pe_glob (v := .ref A.a_BLANKS) rfl T.v_BLANKS rfl) (by rfl))))) (pss_one (ps_aug (i := 2) sc_last_blank_end.nd rfl (.inl rfl) (pe_int) ip_sub)))
      (pss_one (ps_ret (pv 2)))), ?_⟩
    dsimp only [tRet, tRetN, tChain, tOp, tUn, tC, tVar, tSeq, tIfS, tAsg, gName, tTest, tB, tAnd, tOr, tNot, tAndV, tOrV, tNotV, tFld_eq, sFld_eq, sFldAug, L2.rAdd, L2.rSub, tCons, tNil, tLst, tTup, tCall, tMake, tCB, tCKw, tBM, tSl, tPart, tNoPart, tDrop, tNext, tBreak, iList, iRng1, iEnum, gTup, gCons, gNil, tAug, ipI, rI0, rI, rU, cxOf, Cx.nox, Cx.wish, L2.start, List.map, List.length, List.replicate, List.append]
    obtain ⟨ha, hbe, hel, q⟩ := h
    refine ⟨fun m σ H' => H' = H ∧ ∃ j : Nat, b ≤ j ∧ j ≤ e ∧ m = j - b ∧ σ = [some (.ref a), some (.int b), some (.int j)] ∧ lastB ((w.drop b).take (j - b)) = lastB ((w.drop b).take (e - b)), ⟨_, rfl, e, hbe, Nat.le_refl _, rfl, rfl, rfl⟩, ?_⟩
    rintro m σ H' ⟨rfl, j, hbj, hje, rfl, rfl, en⟩
    refine ⟨_, rfl, _, rfl, _, _, rfl, rfl, _, rfl, ifd (fun cc => ?_) (fun cc => ?_)⟩
    · have hj1 : j - 1 < w.length := by omega
      have hg : w[j - 1]? = some w[j - 1] := List.getElem?_eq_getElem hj1
      have et : (w.drop b).take (j - b) = (w.drop b).take (j - 1 - b) ++ [w[j - 1]] := by
        have : (w.drop b)[j - 1 - b]? = some w[j - 1] := by
          rw [List.getElem?_drop, show b + (j - 1 - b) = j - 1 by omega]
          exact hg
        rw [← take_snoc this, show j - 1 - b + 1 = j - b by omega]
      rw [et] at en
      refine ⟨_, rfl, _, rfl, _, _, rfl, rfl, a, _, _, _, rfl, rfl, ha, at_of (j := j - 1) (by omega) (nV_get hg), _, _, rfl, .inr (T.q_BLANKS _), rfl, rfl, _, rfl, ?_⟩
      rw [if_pos (by rfl), isBlank_in]
      cases hb : Ue07.isBlank w[j - 1] with
      | true =>
        refine iteF ⟨_, rfl, ?_⟩
        rw [lastB_yes hb, List.length_take, List.length_drop] at en
        have e2 : b + lastB ((w.drop b).take (e - b)) = j := by omega
        rw [e2] at q
        exact q
      | false =>
        rw [lastB_no hb] at en
        refine iteT ⟨_, fun _ _ h => h, _, rfl, _, _, rfl, rfl, ?_⟩
        refine ⟨j - 1 - b, by omega, rfl, j - 1, by omega, by omega, rfl, ?_, en⟩
        show [some (V.ref a), some (V.int b), some (V.int ((j : Int) - 1))] = _
        rw [show ((j : Int) - 1) = ((j - 1 : Nat) : Int) by omega]
    · refine iteF ⟨_, rfl, ?_⟩
      have : j = b := by omega
      rw [this, Nat.sub_self, List.take_zero, lastB_nil] at en
      rw [← en] at q
      rw [this]
      exact q
def sp_row_end (A : Ad) (K : PySem.W.Frag) : Sp := fun vs H Q _ => ∃ (lk a : Addr) (k : Ue07.Look) (w : List Nat) (b c : Nat), vs = [.ref lk, .ref a, .int b, .int c] ∧ LkAt A H lk k ∧ tabOk k ∧ SqL K H a (nV w) ∧ b ≤ w.length ∧ Q (.int ((b + Ue07.rowLength k c (w.drop b) : Nat) : Int)) H
theorem sc_row_end : FnScope ["look", "line", "begin", "column", "fitting", "hanging", "cut"] ["look", "line", "begin", "column"] (defScope s_row_end) := ⟨rfl, rfl, rfl, by decide +kernel, rfl, by decide +kernel, by decide +kernel⟩
-- slots of row_end: look 0, line 1, begin 2, column 3, fitting 4, hanging 5, cut 6
theorem ok_row_end (T : Tx K mg A) : FnOk P w K mg base CX0 3 A.f_row_end A.d_row_end ["look", "line", "begin", "column"] (sp_row_end A K) := by
  refine T.t_row_end.F.ok sc_row_end (fun vs H Q E h => ?_) (fun cdv Ar outer s0 H vs Q E hr h => ?_)
  · obtain ⟨lk, a, k, w, b, c, rfl, _⟩ := h
    rfl
  · obtain ⟨lk, a, k, w, b, c, rfl, h⟩ := h
    refine ⟨_, (pss_cons (ps_set (i := 4) sc_row_end.nd rfl (.inl rfl) (pe_call (ok_fitting_end T) (hr.mono (by decide)) (by rfl) T.t_fitting_end.g T.t_fitting_end.F.kp T.t_fitting_end.b .nil pass0 (pa_cons (pv 0) (pa_cons (pv 1) (pa_cons (pv 2) (pa_cons (pv 3) pa_nil))))))
      (pss_cons (ps_if (PW.pt (pw_or (pt_cmpR op_eq (pv 4) (pe_callB call_len_seq (by rfl) T.z_len PySem.boot_len (pa_cons (pv 1) pa_nil)) (nomark _)) (pw_or1 (pt_cmpR op_eq (pe_fld (pv 0) rfl) (pe_int) (nomark _))))) (pss_one (ps_ret (pv 4))) pss_nil)
      (pss_cons (ps_set (i := 5) sc_row_end.nd rfl (.inl rfl) (pe_call (ok_blanks_end T) (hr.mono (by decide)) (by rfl) T.t_blanks_end.g T.t_blanks_end.F.kp T.t_blanks_end.b .nil pass0 (pa_cons (pv 1) (pa_cons (pv 4) pa_nil))))
      (pss_cons (ps_if (pt_cmpR op_gt (pv 5) (pv 4) (nomark _)) (pss_one (ps_ret (pv 5))) pss_nil)
      (pss_cons (ps_set (i := 6) sc_row_end.nd rfl (.inl rfl) (pe_call (ok_last_blank_end T) (hr.mono (by decide)) (by rfl) T.t_last_blank_end.g T.t_last_blank_end.F.kp T.t_last_blank_end.b .nil pass0 (pa_cons (pv 1) (pa_cons (pv 2) (pa_cons (pv 4) pa_nil)))))
      (pss_cons (ps_if (pt_cmpR op_gt (pv 6) (pv 2) (nomark _)) (pss_one (ps_ret (pv 6))) pss_nil)
      (pss_one (ps_ret (pv 4))))))))), ?_⟩
    dsimp only [tRet, tRetN, tChain, tOp, tUn, tC, tVar, tSeq, tIfS, tAsg, gName, tTest, tB, tAnd, tOr, tNot, tAndV, tOrV, tNotV, tFld_eq, sFld_eq, sFldAug, L2.rAdd, L2.rSub, tCons, tNil, tLst, tTup, tCall, tMake, tCB, tCKw, tBM, tSl, tPart, tNoPart, tDrop, tNext, tBreak, iList, iRng1, iEnum, gTup, gCons, gNil, tAug, ipI, rI0, rI, rU, cxOf, Cx.nox, Cx.wish, L2.start, List.map, List.length, List.replicate, List.append]
    obtain ⟨⟨dl, hl⟩, ht, ha, hb, q⟩ := h
    have er : Ue07.rowLength k c (w.drop b) = rowEnd k c (w.drop b) := (rowEnd_eq ht.1 c _).symm
    rw [er] at q
    unfold rowEnd at q
    have hm := fitL_le k (w.drop b) true c
    rw [List.length_drop] at hm
    refine ⟨_, rfl, _, rfl, _, rfl, _, rfl, lk, a, k, w, b, c, rfl, ⟨dl, hl⟩, ht, ha, hb, ?_⟩
    simp only at q
    generalize fitL k true c (w.drop b) = m at q hm
    refine ⟨_, rfl, _, rfl, a, _, rfl, .inl ha, rfl, _, rfl, ifv (fun c1 => ?_) (fun c1 => ?_)⟩
    · rw [nV_len] at c1
      rw [if_pos (Or.inl (by rw [List.length_drop]; omega))] at q
      exact iteT ⟨_, rfl, q⟩
    · rw [nV_len] at c1
      have h1 : ¬ m = (w.drop b).length := by rw [List.length_drop]; omega
      refine ⟨_, rfl, r_Look_words T hl ?_⟩
      refine ⟨rfl, _, rfl, ifv (fun c2 => ?_) (fun c2 => ?_)⟩
      · have hw : k.words = false := by
          cases hk : k.words with
          | false => rfl
          | true => rw [hk] at c2; exact absurd c2 (by decide)
        rw [if_pos (Or.inr hw)] at q
        exact ⟨_, rfl, q⟩
      · have hw : ¬ k.words = false := fun z => c2 (by rw [z]; rfl)
        rw [if_neg (fun z => z.elim h1 hw), List.drop_drop] at q
        refine ⟨_, rfl, _, rfl, a, w, b + m, rfl, ha, by omega, _, rfl, _, rfl, _, _, rfl, rfl, _, rfl, ifd (fun c3 => ?_) (fun c3 => ?_)⟩
        · rw [if_pos (by omega), ← Nat.add_assoc] at q
          exact ⟨_, rfl, q⟩
        · rw [if_neg (by omega)] at q
          refine ⟨_, rfl, _, rfl, _, rfl, a, w, b, b + m, rfl, ha, by omega, by omega, _, rfl, _, rfl, _, _, rfl, rfl, _, rfl, ?_⟩
          rw [Nat.add_sub_cancel_left]
          refine ifd (fun c4 => ?_) (fun c4 => ?_)
          · rw [if_pos (by omega)] at q
            exact ⟨_, rfl, q⟩
          · rw [if_neg (by omega)] at q
            exact ⟨_, rfl, q⟩
end
end FV
namespace FV
open PySem PySem.Spec PyProof.Rows L2
section
variable {P : Program} {w : World} {K : PySem.W.Frag} {mg : Str → Option Value} {base : Heap} {A : Ad}
theorem Rows.upd_lst {H : Hp} {p : Addr} {ys : List V} {o : HO} (hp : H p = some (.lst ys)) {xs : List V} {l : List (Nat × Ue07.Row)} (h : All2 (RwV A H) xs l) : All2 (RwV A (upd H p o)) xs l := h.mono fun y g _ r => by
  obtain ⟨z, rfl, dx, hz⟩ := r
  refine ⟨z, rfl, dx, ?_⟩
  rw [upd_ne (ne_of hz hp (by intro z; cases z))]
  exact hz
def sp_line_rows (A : Ad) (K : PySem.W.Frag) : Sp := fun vs H Q _ => ∃ (lk : Addr) (n : Nat) (a : Addr) (k : Ue07.Look) (w : List Nat), vs = [.ref lk, .int n, .ref a] ∧ LkAt A H lk k ∧ tabOk k ∧ SqL K H a (nV w) ∧ w.length ≤ 120 ∧
  ∀ H' p xs, Same H H' → H p = none → H' p = some (.lst xs) → All2 (RwV A H') xs ((Ue07.rows k w).map fun r => (n, r)) → Q (.ref p) H'
theorem sc_line_rows : FnScope ["look", "number", "line", "inset", "behind", "rows", "begin"] ["look", "number", "line"] (defScope s_line_rows) := ⟨rfl, rfl, rfl, by decide +kernel, rfl, by decide +kernel, by decide +kernel⟩
-- slots of line_rows: look 0, number 1, line 2, inset 3, behind 4, rows 5, begin 6
theorem ok_line_rows (T : Tx K mg A) : FnOk P w K mg base CX0 4 A.f_line_rows A.d_line_rows ["look", "number", "line"] (sp_line_rows A K) := by
  refine T.t_line_rows.F.ok sc_line_rows (fun vs H Q E h => ?_) (fun cdv Ar outer s0 H vs Q E hr h => ?_)
  · obtain ⟨lk, n, a, k, w, rfl, _⟩ := h
    rfl
  · obtain ⟨lk, n, a, k, w, rfl, h⟩ := h
    refine ⟨_, (pss_cons (ps_set (i := 3) sc_line_rows.nd rfl (.inl rfl) (pe_call (ok_inset_of T) (hr.mono (by decide)) (by rfl) T.t_inset_of.g T.t_inset_of.F.kp T.t_inset_of.b .nil pass0 (pa_cons (pv 0) (pa_cons (pv 2) pa_nil))))
      (pss_cons (ps_set (i := 4) sc_line_rows.nd rfl (.inl rfl) (pe_call (ok_row_end T) (hr.mono (by decide)) (by rfl) T.t_row_end.g T.t_row_end.F.kp T.t_row_end.b .nil pass0 (pa_cons (pv 0) (pa_cons (pv 2) (pa_cons (pe_int) (pa_cons (pe_int) pa_nil))))))
      (pss_cons (ps_set (i := 5) sc_line_rows.nd rfl (.inl rfl) (pe_lst (pa_cons (pe_make T.t_Row.m (ok_initRow T) (hr.mono (by decide)) (by rfl) T.t_Row.g T.t_Row.b .nil pass0 (pa_cons (pv 1) (pa_cons (pe_int) (pa_cons (pv 4) (pa_cons (pe_int) pa_nil))))) pa_nil)))
      (pss_cons (ps_while PassesOwn.never (pt_cmpR op_lt (pv 4) (pe_callB call_len_seq (by rfl) T.z_len PySem.boot_len (pa_cons (pv 2) pa_nil)) (nomark _)) (pss_cons (ps_set (i := 6) sc_line_rows.nd rfl (.inl rfl) (pv 4))
      (pss_cons (ps_set (i := 4) sc_line_rows.nd rfl (.inl rfl) (pe_call (ok_row_end T) (hr.mono (by decide)) (by rfl) T.t_row_end.g T.t_row_end.F.kp T.t_row_end.b .nil pass0 (pa_cons (pv 0) (pa_cons (pv 2) (pa_cons (pv 6) (pa_cons (pv 3) pa_nil))))))
      (pss_one (ps_expr (pe_bm PySem.F.plainAttrs_list PySem.F.slot_list_append PySem.F.type_list_append mt_append (pv 5) (pa_cons (pe_make T.t_Row.m (ok_initRow T) (hr.mono (by decide)) (by rfl) T.t_Row.g T.t_Row.b .nil pass0 (pa_cons (pv 1) (pa_cons (pv 6) (pa_cons (pv 4) (pa_cons (pv 3) pa_nil))))) pa_nil)))))))
      (pss_one (ps_ret (pv 5))))))), ?_⟩
    dsimp only [tRet, tRetN, tChain, tOp, tUn, tC, tVar, tSeq, tIfS, tAsg, gName, tTest, tB, tAnd, tOr, tNot, tAndV, tOrV, tNotV, tFld_eq, sFld_eq, sFldAug, L2.rAdd, L2.rSub, tCons, tNil, tLst, tTup, tCall, tMake, tCB, tCKw, tBM, tSl, tPart, tNoPart, tDrop, tNext, tBreak, iList, iRng1, iEnum, gTup, gCons, gNil, tAug, ipI, rI0, rI, rU, cxOf, Cx.nox, Cx.wish, L2.start, List.map, List.length, List.replicate, List.append]
    obtain ⟨hl, ht, ha, h120, q⟩ := h
    refine ⟨_, rfl, _, rfl, lk, a, k, w, rfl, hl, ht, ha, fun H1 s1 => ?_⟩
    refine ⟨_, rfl, _, rfl, lk, a, k, w, 0, 0, rfl, hl.same s1, ht, s1.seq ha, Nat.zero_le _, ?_⟩
    rw [List.drop_zero, show 0 + Ue07.rowLength k 0 w = Ue07.rowLength k 0 w from Nat.zero_add _]
    have hle0 := rowLength_le ht.1 0 w
    have hrows := rows_first ht.1 w
    generalize Ue07.rowLength k 0 w = b0 at hle0 hrows
    refine ⟨_, rfl, _, rfl, fun x dx nx nd ne => ?_⟩
    refine ⟨x, dx, (n, ⟨0, b0, 0⟩), rfl, upd_same, fun H2 hr2 kp2 => ⟨rfl, ?_⟩⟩
    have s2 : Same H1 H2 := Same.made nx nd kp2
    refine ⟨sz (by decide), fun p np => ?_⟩
    have s3 : Same H2 (upd H2 p (.lst [.ref x])) := same_upd np
    have s0 : Same H (upd H2 p (.lst [.ref x])) := (s1.trans s2).trans s3
    have npH : H p = none := (s1.trans s2).free np
    have hlen := (rows_tiles ht.1 w).len
    refine ⟨fun m σ H' => ∃ (b : Nat) (v6 : Option V) (xs : List V) (rs : List Ue07.Row), m = w.length - b ∧ b ≤ w.length ∧ σ = [some (.ref lk), some (.int n), some (.ref a), some (.int (Ue07.inset k w : Nat)), some (.int b), some (.ref p), v6] ∧ Same H H' ∧ H' p = some (.lst xs) ∧
        All2 (RwV A H') xs (rs.map fun r => (n, r)) ∧ Ue07.rows k w = rs ++ restR k w b, ⟨_, b0, none, [.ref x], [⟨0, b0, 0⟩], rfl, hle0, rfl, s0, upd_same, .cons ⟨x, rfl, hr2.same s3⟩ .nil, hrows⟩, ?_⟩
    rintro m σ H' ⟨b, v6, xs, rs, rfl, hb, rfl, s4, hp, hA, he⟩
    refine ⟨_, rfl, _, rfl, a, _, rfl, .inl (s4.seq ha), _, _, rfl, rfl, _, rfl, ifd (fun cc => ?_) (fun cc => ?_)⟩
    · rw [nV_len] at cc
      have hb2 : b < w.length := by omega
      have hn := rows_next (k := k) ht.1 hb2
      have hpos := rowLength_pos (k := k) ht.1 (Ue07.inset k w) (w := w.drop b) (by rw [List.length_drop]; omega)
      have hle := rowLength_le (k := k) ht.1 (Ue07.inset k w) (w.drop b)
      rw [List.length_drop] at hle
      rw [hn] at he
      refine ⟨_, fun _ _ h => h, _, rfl, ?_⟩
      refine ⟨_, rfl, _, rfl, _, rfl, _, rfl, lk, a, k, w, b, _, rfl, hl.same s4, ht, s4.seq ha, hb, ?_⟩
      generalize Ue07.rowLength k (Ue07.inset k w) (w.drop b) = r at hpos hle he ⊢
      refine ⟨_, rfl, .inl ⟨rfl, _, SqL.of hp⟩, _, rfl, _, rfl, _, rfl, _, rfl, fun x2 dx2 nx2 nd2 ne2 => ?_⟩
      refine ⟨x2, dx2, (n, ⟨b, b + r, Ue07.inset k w⟩), rfl, upd_same, fun H3 hr3 kp3 => ⟨rfl, ?_⟩⟩
      have s5 : Same H' H3 := Same.made nx2 nd2 kp3
      have hp3 := s5 _ _ hp
      have hxs : xs.length = rs.length := by rw [hA.len, List.length_map]
      have hrs : rs.length ≤ (Ue07.rows k w).length := by rw [he, List.length_append]; omega
      refine ⟨p, xs, _, rfl, rfl, hp3, szl (by omega), ?_⟩
      refine ⟨w.length - (b + r), by omega, b + r, _, xs ++ [.ref x2], rs ++ [⟨b, b + r, Ue07.inset k w⟩], rfl, by omega, rfl, fun z o hz => ?_, upd_same, ?_, ?_⟩
      · rw [upd_ne (ne_of_none hz npH)]
        exact s5 _ _ (s4 _ _ hz)
      · rw [List.map_append]
        refine (Rows.upd_lst hp3 (rws_same s5 hA)).append (Rows.upd_lst hp3 ?_)
        exact .cons ⟨x2, rfl, hr3⟩ .nil
      · rw [he, List.append_assoc]
        rfl
    · rw [nV_len] at cc
      have : b = w.length := by omega
      rw [restR_end (by omega), List.append_nil] at he
      rw [← he] at hA
      exact ⟨_, rfl, q H' p xs s4 npH hp hA⟩
def sp_place_column (A : Ad) (K : PySem.W.Frag) : Sp := fun vs H Q _ => ∃ (lk a r : Addr) (k : Ue07.Look) (w : List Nat) (x : Nat × Ue07.Row) (p : Nat), vs = [.ref lk, .ref a, .ref r, .int p] ∧ LkAt A H lk k ∧ tabOk k ∧ 1 ≤ k.wide ∧ SqL K H a (nV w) ∧ RwAt A H r x ∧
  ∀ H', Same H H' → Q (.int ((min (Ue07.behind k x.2.col ((w.take p).drop x.2.a)) (k.wide - 1) : Nat) : Int)) H'
theorem sc_place_column : FnScope ["look", "line", "row", "place", "column"] ["look", "line", "row", "place"] (defScope s_place_column) := ⟨rfl, rfl, rfl, by decide +kernel, rfl, by decide +kernel, by decide +kernel⟩
-- slots of place_column: look 0, line 1, row 2, place 3, column 4
theorem ok_place_column (T : Tx K mg A) : FnOk P w K mg base CX0 3 A.f_place_column A.d_place_column ["look", "line", "row", "place"] (sp_place_column A K) := by
  refine T.t_place_column.F.ok sc_place_column (fun vs H Q E h => ?_) (fun cdv Ar outer s0 H vs Q E hr h => ?_)
  · obtain ⟨lk, a, r, k, w, x, p, rfl, _⟩ := h
    rfl
  · obtain ⟨lk, a, r, k, w, x, p, rfl, h⟩ := h
    refine ⟨_, (pss_cons (ps_set (i := 4) sc_place_column.nd rfl (.inl rfl) (pe_call (ok_column_after T) (hr.mono (by decide)) (by rfl) T.t_column_after.g T.t_column_after.F.kp T.t_column_after.b .nil pass0 (pa_cons (pv 0) (pa_cons (pe_slice sl_list (pv 1) (po_some (pe_fld (pv 2) rfl)) (po_some (pv 3))) (pa_cons (pe_fld (pv 2) rfl) pa_nil)))))
      (pss_one (ps_ret (pe_callB (call_min2 rfl) (by rfl) T.z_min (by decide +kernel) (pa_cons (pv 4) (pa_cons (pe_op op_sub (pe_fld (pv 0) rfl) (pe_int)) pa_nil)))))), ?_⟩
    dsimp only [tRet, tRetN, tChain, tOp, tUn, tC, tVar, tSeq, tIfS, tAsg, gName, tTest, tB, tAnd, tOr, tNot, tAndV, tOrV, tNotV, tFld_eq, sFld_eq, sFldAug, L2.rAdd, L2.rSub, tCons, tNil, tLst, tTup, tCall, tMake, tCB, tCKw, tBM, tSl, tPart, tNoPart, tDrop, tNext, tBreak, iList, iRng1, iEnum, gTup, gCons, gNil, tAug, ipI, rI0, rI, rU, cxOf, Cx.nox, Cx.wish, L2.start, List.map, List.length, List.replicate, List.append]
    obtain ⟨⟨dl, hl⟩, ht, hw, ha, ⟨dr, hr2⟩, q⟩ := h
    refine ⟨_, rfl, _, rfl, _, rfl, r_Row_begin T hr2 ?_⟩
    refine ⟨_, rfl, _, rfl, _, rfl, a, _, rfl, ha, fun c nc => ?_⟩
    rw [cut_mid, nV_take, nV_drop]
    have s1 : Same H (upd H c (.lst (nV ((w.take p).drop x.2.a)))) := same_upd nc
    refine ⟨_, rfl, r_Row_column T (s1 _ _ hr2) ?_⟩
    refine ⟨lk, c, k, (w.take p).drop x.2.a, x.2.col, rfl, ⟨dl, s1 _ _ hl⟩, ht, SqL.of upd_same, ?_⟩
    refine ⟨_, rfl, _, rfl, r_Look_wide T (s1 _ _ hl) ?_⟩
    refine ⟨_, _, rfl, rfl, _, _, rfl, ?_⟩
    rw [show (k.wide : Int) - 1 = ((k.wide - 1 : Nat) : Int) by omega, min2]
    exact q _ s1
def sp_place_for (A : Ad) (K : PySem.W.Frag) : Sp := fun vs H Q _ => ∃ (lk a r : Addr) (k : Ue07.Look) (w : List Nat) (x : Nat × Ue07.Row) (c : Nat), vs = [.ref lk, .ref a, .ref r, .int c] ∧ LkAt A H lk k ∧ tabOk k ∧ SqL K H a (nV w) ∧ RwAt A H r x ∧
  x.2.a ≤ x.2.b ∧ x.2.b ≤ w.length ∧ (x.2.b < w.length → x.2.a < x.2.b) ∧ Q (.int ((Ue07.placeIn k w x.2 c : Nat) : Int)) H
theorem sc_place_for : FnScope ["look", "line", "row", "column", "last", "place", "reached"] ["look", "line", "row", "column"] (defScope s_place_for) := ⟨rfl, rfl, rfl, by decide +kernel, rfl, by decide +kernel, by decide +kernel⟩
-- slots of place_for: look 0, line 1, row 2, column 3, last 4, place 5, reached 6
theorem ok_place_for (T : Tx K mg A) : FnOk P w K mg base CX0 2 A.f_place_for A.d_place_for ["look", "line", "row", "column"] (sp_place_for A K) := by
  refine T.t_place_for.F.ok sc_place_for (fun vs H Q E h => ?_) (fun cdv Ar outer s0 H vs Q E hr h => ?_)
  · obtain ⟨lk, a, r, k, w, x, c, rfl, _⟩ := h
    rfl
  · obtain ⟨lk, a, r, k, w, x, c, rfl, h⟩ := h
    refine ⟨_, (pss_cons (ps_set (i := 4) sc_place_for.nd rfl (.inl rfl) (pe_fld (pv 2) rfl))
      (pss_cons (ps_if (pt_cmpR op_lt (pv 4) (pe_callB call_len_seq (by rfl) T.z_len PySem.boot_len (pa_cons (pv 1) pa_nil)) (nomark _)) (pss_one (ps_aug (i := 4) sc_place_for.nd rfl (.inl rfl) (pe_int) ip_sub)) pss_nil)
      (pss_cons (ps_set (i := 5) sc_place_for.nd rfl (.inl rfl) (pe_fld (pv 2) rfl))
      (pss_cons (ps_set (i := 6) sc_place_for.nd rfl (.inl rfl) (pe_fld (pv 2) rfl))
      (pss_cons (ps_while PassesOwn.never (pt_cmpR op_lt (pv 5) (pv 4) (nomark _)) (pss_cons (ps_set (i := 6) sc_place_for.nd rfl (.inl rfl) (pe_call (ok_column_behind T) (hr.mono (by decide)) (by rfl) T.t_column_behind.g T.t_column_behind.F.kp T.t_column_behind.b .nil pass0 (pa_cons (pv 0) (pa_cons (pe_ix ix_list (pv 1) (pv 5) (fun _ _ => rfl)) (pa_cons (pv 6) pa_nil)))))
      (pss_cons (ps_if (pt_cmpR op_gt (pv 6) (pv 3) (nomark _)) (pss_one ps_break) pss_nil)
      (pss_one (ps_aug (i := 5) sc_place_for.nd rfl (.inl rfl) (pe_int) ip_add)))))
      (pss_one (ps_ret (pv 5)))))))), ?_⟩
    dsimp only [tRet, tRetN, tChain, tOp, tUn, tC, tVar, tSeq, tIfS, tAsg, gName, tTest, tB, tAnd, tOr, tNot, tAndV, tOrV, tNotV, tFld_eq, sFld_eq, sFldAug, L2.rAdd, L2.rSub, tCons, tNil, tLst, tTup, tCall, tMake, tCB, tCKw, tBM, tSl, tPart, tNoPart, tDrop, tNext, tBreak, iList, iRng1, iEnum, gTup, gCons, gNil, tAug, ipI, rI0, rI, rU, cxOf, Cx.nox, Cx.wish, L2.start, List.map, List.length, List.replicate, List.append]
    obtain ⟨⟨dl, hl⟩, ht, ha, ⟨dr, hr2⟩, h1, h2, h3, q⟩ := h
    rw [placeIn_eq k w x.2 c h1 h3] at q
    refine ⟨_, rfl, r_Row_behind T hr2 ?_⟩
    refine ⟨_, rfl, _, rfl, a, _, rfl, .inl ha, _, _, rfl, rfl, _, rfl, ?_⟩
    rw [nV_len]
    have loop : ∀ last : Nat, x.2.a ≤ last → last ≤ w.length → Q (.int ((Ue07.placeFrom k c (last - x.2.a) x.2.a x.2.col (w.drop x.2.a) : Nat) : Int)) H →
        tWhile (tTest (tOp (rI0 fun i j => V.bl (decide (i < j))) (tVar 5) (tVar 4)))
          (tSeq (tAsg (tCall (sp_column_behind A) [] E0 (tCons (tVar 0) (tCons (tOp (rIxL K) (tVar 1) (tVar 5)) (tCons (tVar 6) tNil)))) (gName 6))
            (tSeq (tIfS (tTest (tOp (rI0 fun i j => V.bl (decide (j < i))) (tVar 6) (tVar 3))) tBreak tNext) (tAug 5 (tC (V.int 1)) (ipI fun i j => i + j))))
          { nx := tRet (tVar 5) { nx := fun x H' => Q V.non H', rt := Q }, rt := Q } [some (.ref lk), some (.ref a), some (.ref r), some (.int c), some (.int last), some (.int x.2.a), some (.int x.2.col)] H := fun last hl1 hl2 q => by
      refine ⟨fun m σ H' => H' = H ∧ ∃ j c' : Nat, x.2.a ≤ j ∧ j ≤ last ∧ m = last - j ∧ σ = [some (.ref lk), some (.ref a), some (.ref r), some (.int c), some (.int last), some (.int j), some (.int c')] ∧ Ue07.placeFrom k c (last - j) j c' (w.drop j) = Ue07.placeFrom k c (last - x.2.a) x.2.a x.2.col (w.drop x.2.a), ⟨_, rfl, x.2.a, x.2.col, Nat.le_refl _, hl1, rfl, rfl, rfl⟩, ?_⟩
      rintro m σ H' ⟨rfl, j, c', hj1, hj2, rfl, rfl, e⟩
      refine ⟨_, rfl, _, rfl, _, _, rfl, rfl, _, rfl, ifd (fun cc => ?_) (fun cc => ?_)⟩
      · have hj3 : j < w.length := by omega
        have hg : w[j]? = some w[j] := List.getElem?_eq_getElem hj3
        have hd : w.drop j = w[j] :: w.drop (j + 1) := List.drop_eq_getElem_cons hj3
        rw [hd, show last - j = (last - (j + 1)) + 1 by omega] at e
        have e' : (if c < c' + Ue07.cost k c' w[j] then j else Ue07.placeFrom k c (last - (j + 1)) (j + 1) (c' + Ue07.cost k c' w[j]) (w.drop (j + 1))) = Ue07.placeFrom k c (last - x.2.a) x.2.a x.2.col (w.drop x.2.a) := e
        refine ⟨_, fun _ _ h => h, _, rfl, _, rfl, _, rfl, a, _, _, _, rfl, rfl, ha, atI_nat (nV_get hg), _, rfl, lk, k, _, c', rfl, ⟨dl, hl⟩, ht, ?_⟩
        refine ⟨_, rfl, _, rfl, _, _, rfl, rfl, _, rfl, ifd (fun c1 => ?_) (fun c1 => ?_)⟩
        · rw [if_pos (by omega)] at e'
          rw [← e'] at q
          exact ⟨_, rfl, q⟩
        · rw [if_neg (by omega)] at e'
          exact ⟨_, rfl, _, _, rfl, rfl, _, by omega, rfl, j + 1, _, by omega, by omega, rfl, rfl, e'⟩
      · have : j = last := by omega
        rw [this, Nat.sub_self] at e
        have e' : last = Ue07.placeFrom k c (last - x.2.a) x.2.a x.2.col (w.drop x.2.a) := e
        rw [← e', ← this] at q
        exact ⟨_, rfl, q⟩
    refine ifd (fun cc => ⟨_, rfl, _, _, rfl, rfl, ?_⟩) (fun cc => ?_)
    · have hab := h3 (by omega)
      rw [if_pos (by omega)] at q
      have L := loop (x.2.b - 1) (by omega) (by omega) q
      rw [show ((x.2.b - 1 : Nat) : Int) = (x.2.b : Int) - 1 by omega] at L
      refine ⟨_, rfl, r_Row_begin T hr2 ?_⟩
      exact ⟨_, rfl, r_Row_column T hr2 L⟩
    · rw [if_neg (by omega)] at q
      have L := loop x.2.b (by omega) (by omega) q
      refine ⟨_, rfl, r_Row_begin T hr2 ?_⟩
      exact ⟨_, rfl, r_Row_column T hr2 L⟩
end
end FV
namespace FV
open PySem PySem.Spec PyProof.Rows L2
/-! ### the state in the heap -/
def But (s : Addr) (H H' : Hp) : Prop := ∀ b o, H b = some o → b ≠ s → H' b = some o
theorem But.refl (s : Addr) (H : Hp) : But s H H := fun _ _ h _ => h
theorem same_but {H H' : Hp} (h : Same H H') (s : Addr) : But s H H' := fun b o e _ => h b o e
theorem But.trans {s : Addr} {H H1 H2 : Hp} (a : But s H H1) (b : But s H1 H2) : But s H H2 := fun c o h n => b c o (a c o h n) n
theorem But.free {s : Addr} {H H' : Hp} (e : But s H H') {l : Addr} (hs : H' s ≠ none) (h : H' l = none) : H l = none := by
  cases q : H l with
  | none => rfl
  | some o =>
    by_cases c : l = s
    · rw [c] at h; exact absurd h hs
    · rw [e l o q c] at h; cases h
theorem but_upd {s : Addr} {H : Hp} {o : HO} : But s H (upd H s o) := fun b u h n => by rw [upd_ne n]; exact h
def LnV (H : Hp) (v : V) (w : List Nat) : Prop := ∃ a, v = .ref a ∧ H a = some (.lst (nV w))
theorem LnV.same {H H' : Hp} (s : Same H H') {v : V} {f : List Nat} (h : LnV H v f) : LnV H' v f := let ⟨a, e, ha⟩ := h; ⟨a, e, s _ _ ha⟩
theorem lns_same {H H' : Hp} (s : Same H H') {ts : List V} {fs : List (List Nat)} (h : All2 (LnV H) ts fs) : All2 (LnV H') ts fs := h.mono fun _ _ _ r => r.same s
structure StAt (A : Ad) (H : Hp) (s dx lk L F : Addr) (ls ts : List V) (g : Ue07.St) : Prop where
  o : H s = some (.ins A.C_State dx (sF lk L F g))
  k : LkAt A H lk g.look
  l : H L = some (.lst ls)
  lA : All2 (LnV H) ls g.lines
  f : H F = some (.lst ts)
  fA : All2 (FdV H) ts g.folds
  n : V.ref F ∉ ls
  m : L ≠ F
section
variable {P : Program} {w : World} {K : PySem.W.Frag} {mg : Str → Option Value} {base : Heap} {A : Ad}
variable {H H' : Hp} {s dx lk L F : Addr} {ls ts : List V} {g : Ue07.St}
theorem lk_ne_st {k : Ue07.Look} {C C' d d' : Addr} : HO.ins C d (lkF k) ≠ HO.ins C' d' (sF lk L F g) := fun z => by
  injection z with _ _ z
  have := congrArg List.length z
  exact absurd this (by show ¬ 5 = 9; decide)
theorem rw_ne_st {x : Nat × Ue07.Row} {C C' d d' : Addr} : HO.ins C d (rwF x) ≠ HO.ins C' d' (sF lk L F g) := fun z => by
  injection z with _ _ z
  have := congrArg List.length z
  exact absurd this (by show ¬ 4 = 9; decide)
theorem StAt.same (S : StAt A H s dx lk L F ls ts g) (e : Same H H') : StAt A H' s dx lk L F ls ts g := ⟨e _ _ S.o, S.k.same e, e _ _ S.l, lns_same e S.lA, e _ _ S.f, fds_same e S.fA, S.n, S.m⟩
theorem StAt.but_lk (S : StAt A H s dx lk L F ls ts g) (e : But s H H') {a : Addr} {k : Ue07.Look} (h : LkAt A H a k) : LkAt A H' a k := let ⟨d, x⟩ := h; ⟨d, e _ _ x (ne_of x S.o lk_ne_st)⟩
theorem StAt.but_lst (S : StAt A H s dx lk L F ls ts g) (e : But s H H') {a : Addr} {xs : List V} (h : H a = some (.lst xs)) : H' a = some (.lst xs) := e _ _ h (ne_of h S.o (by intro z; cases z))
theorem StAt.but_lns (S : StAt A H s dx lk L F ls ts g) (e : But s H H') {xs : List V} {l : List (List Nat)} (h : All2 (LnV H) xs l) : All2 (LnV H') xs l := h.mono fun _ _ _ ⟨a, e1, ha⟩ => ⟨a, e1, S.but_lst e ha⟩
theorem StAt.but_fds (S : StAt A H s dx lk L F ls ts g) (e : But s H H') {xs : List V} {l : List (Nat × Nat)} (h : All2 (FdV H) xs l) : All2 (FdV H') xs l := h.mono fun _ _ _ ⟨a, e1, ha⟩ => ⟨a, e1, e _ _ ha (ne_of ha S.o (by intro z; cases z))⟩
theorem StAt.but_rows (S : StAt A H s dx lk L F ls ts g) (e : But s H H') {xs : List V} {l : List (Nat × Ue07.Row)} (h : All2 (RwV A H) xs l) : All2 (RwV A H') xs l := h.mono fun _ _ _ ⟨a, e1, d, ha⟩ => ⟨a, e1, d, e _ _ ha (ne_of ha S.o rw_ne_st)⟩
theorem StAt.store (S : StAt A H s dx lk L F ls ts g) {lk' L' F' : Addr} {ls' ts' : List V} {g' : Ue07.St} (hk : LkAt A H lk' g'.look) (hl : H L' = some (.lst ls')) (hlA : All2 (LnV H) ls' g'.lines) (hf : H F' = some (.lst ts')) (hfA : All2 (FdV H) ts' g'.folds) (hn : V.ref F' ∉ ls') (hm : L' ≠ F') :
    StAt A (upd H s (.ins A.C_State dx (sF lk' L' F' g'))) s dx lk' L' F' ls' ts' g' :=
  ⟨upd_same, S.but_lk but_upd hk, S.but_lst but_upd hl, S.but_lns but_upd hlA, S.but_lst but_upd hf, S.but_fds but_upd hfA, hn, hm⟩
section
variable {R : Hp → Prop}
theorem st_line (T : Tx K mg A) (S : StAt A H s dx lk L F ls ts g) {n : Nat} (q : ∀ H', But s H H' → StAt A H' s dx lk L F ls ts { g with line := n } → R H') : rSt K "line" (.ref s) (.int n) H R := w_State_line T S.o (q _ but_upd (S.store S.k S.l S.lA S.f S.fA S.n S.m))
theorem st_place (T : Tx K mg A) (S : StAt A H s dx lk L F ls ts g) {n : Nat} (q : ∀ H', But s H H' → StAt A H' s dx lk L F ls ts { g with place := n } → R H') : rSt K "place" (.ref s) (.int n) H R := w_State_place T S.o (q _ but_upd (S.store S.k S.l S.lA S.f S.fA S.n S.m))
theorem st_wished (T : Tx K mg A) (S : StAt A H s dx lk L F ls ts g) (n : Option Nat) (q : ∀ H', But s H H' → StAt A H' s dx lk L F ls ts { g with wish := n } → R H') : rSt K "wished" (.ref s) (vOpt n) H R := w_State_wished T S.o (q _ but_upd (S.store S.k S.l S.lA S.f S.fA S.n S.m))
theorem st_high (T : Tx K mg A) (S : StAt A H s dx lk L F ls ts g) {n : Nat} (q : ∀ H', But s H H' → StAt A H' s dx lk L F ls ts { g with high := n } → R H') : rSt K "high" (.ref s) (.int n) H R := w_State_high T S.o (q _ but_upd (S.store S.k S.l S.lA S.f S.fA S.n S.m))
theorem st_margin (T : Tx K mg A) (S : StAt A H s dx lk L F ls ts g) {n : Nat} (q : ∀ H', But s H H' → StAt A H' s dx lk L F ls ts { g with margin := n } → R H') : rSt K "margin" (.ref s) (.int n) H R := w_State_margin T S.o (q _ but_upd (S.store S.k S.l S.lA S.f S.fA S.n S.m))
theorem st_top (T : Tx K mg A) (S : StAt A H s dx lk L F ls ts g) {n : Nat} (q : ∀ H', But s H H' → StAt A H' s dx lk L F ls ts { g with top := n } → R H') : rSt K "top" (.ref s) (.int n) H R := w_State_top T S.o (q _ but_upd (S.store S.k S.l S.lA S.f S.fA S.n S.m))
theorem st_look (T : Tx K mg A) (S : StAt A H s dx lk L F ls ts g) {n : Addr} {k : Ue07.Look} (hk : LkAt A H n k) (q : ∀ H', But s H H' → StAt A H' s dx n L F ls ts { g with look := k } → R H') : rSt K "look" (.ref s) (.ref n) H R := w_State_look T S.o (q _ but_upd (S.store (g' := { g with look := k }) hk S.l S.lA S.f S.fA S.n S.m))
theorem st_lines (T : Tx K mg A) (S : StAt A H s dx lk L F ls ts g) {n : Addr} {xs : List V} {l : List (List Nat)} (h : H n = some (.lst xs)) (hA : All2 (LnV H) xs l) (hn : V.ref F ∉ xs) (hm : n ≠ F) (q : ∀ H', But s H H' → StAt A H' s dx lk n F xs ts { g with lines := l } → R H') : rSt K "lines" (.ref s) (.ref n) H R := w_State_lines T S.o (q _ but_upd (S.store (g' := { g with lines := l }) S.k h hA S.f S.fA hn hm))
theorem st_folds (T : Tx K mg A) (S : StAt A H s dx lk L F ls ts g) {n : Addr} {xs : List V} {l : List (Nat × Nat)} (h : H n = some (.lst xs)) (hA : All2 (FdV H) xs l) (hn : V.ref n ∉ ls) (hm : L ≠ n) (q : ∀ H', But s H H' → StAt A H' s dx lk L n ls xs { g with folds := l } → R H') : rSt K "folds" (.ref s) (.ref n) H R := w_State_folds T S.o (q _ but_upd (S.store (g' := { g with folds := l }) S.k S.l S.lA h hA hn hm))
end
theorem StAt.line_at (S : StAt A H s dx lk L F ls ts g) {n : Nat} (h : n < g.lines.length) : ∃ a, ls[n]? = some (.ref a) ∧ H a = some (.lst (nV (Ue07.lineAt g n))) := by
  obtain ⟨x, hx, a, rfl, ha⟩ := S.lA.get' (lineAt_get h)
  exact ⟨a, hx, ha⟩
def sp_initState (A : Ad) : Sp := fun vs H Q _ => ∃ (p dx : Addr), vs = [.ref p] ∧ H p = some (.ins A.C_State dx []) ∧
  ∀ (H' : Hp) (lk L F : Addr) (ls ts : List V), StAt A H' p dx lk L F ls ts Ue07.init → (∀ b o, H b = some o → b ≠ p → H' b = some o) → Q .non H'
theorem rSt_but {f : Str} {y : V} {a dx C : Addr} {fs : List (Str × V)} {R : Hp → Prop} (h : H a = some (.ins C dx fs)) (c : Cls K C) (n : NoAttr K C f) (hl : fs.length < 1000) (q : ∀ H', But a H H' → H' a = some (.ins C dx (putF f y fs)) → R H') : rSt K f (.ref a) y H R :=
  ⟨a, C, dx, fs, rfl, h, c, n, hl, q _ but_upd upd_same⟩
theorem sc_initState : FnScope ["self"] ["self"] (defScope s_initState) := ⟨rfl, rfl, rfl, by decide +kernel, rfl, by decide +kernel, by decide +kernel⟩
-- slots of initState: self 0
theorem ok_initState (T : Tx K mg A) : FnOk P w K mg base CX0 3 A.f_initState A.d_initState ["self"] (sp_initState A) := by
  refine T.t_State.F.ok sc_initState (fun vs H Q E h => ?_) (fun cdv Ar outer s0 H vs Q E hr h => ?_)
  · obtain ⟨p, dx, rfl, _⟩ := h
    rfl
  · obtain ⟨p, dx, rfl, h⟩ := h
    refine ⟨_, (pss_cons (ps_fld (pv 0) (pe_make T.t_Look.m (ok_initLook T) (hr.mono (by decide)) (by rfl) T.t_Look.g T.t_Look.b .nil pass0 (pa_cons (pe_int) (pa_cons (pe_int) (pa_cons (pe_int) (pa_cons (pe_int) (pa_cons (pe_int) pa_nil)))))) rfl)
      (pss_cons (ps_fld (pv 0) (pe_lst (pa_cons (pe_lst pa_nil) pa_nil)) rfl)
      (pss_cons (ps_fld (pv 0) (pe_lst pa_nil) rfl)
      (pss_cons (ps_fld (pv 0) (pe_int) rfl)
      (pss_cons (ps_fld (pv 0) (pe_int) rfl)
      (pss_cons (ps_fld (pv 0) (pe_non) rfl)
      (pss_cons (ps_fld (pv 0) (pe_int) rfl)
      (pss_cons (ps_fld (pv 0) (pe_int) rfl)
      (pss_one (ps_fld (pv 0) (pe_int) rfl)))))))))), ?_⟩
    dsimp only [tRet, tRetN, tChain, tOp, tUn, tC, tVar, tSeq, tIfS, tAsg, gName, tTest, tB, tAnd, tOr, tNot, tAndV, tOrV, tNotV, tFld_eq, sFld_eq, sFldAug, L2.rAdd, L2.rSub, tCons, tNil, tLst, tTup, tCall, tMake, tCB, tCKw, tBM, tSl, tPart, tNoPart, tDrop, tNext, tBreak, iList, iRng1, iEnum, gTup, gCons, gNil, tAug, ipI, rI0, rI, rU, cxOf, Cx.nox, Cx.wish, L2.start, List.map, List.length, List.replicate, List.append]
    obtain ⟨hp, q⟩ := h
    intro x dx2 nx nd ne
    refine ⟨x, dx2, ⟨20, 8, 0, false, true⟩, rfl, upd_same, fun H1 hk kp => ⟨rfl, ?_⟩⟩
    have s1 : Same H H1 := Same.made nx nd kp
    have nxp : x ≠ p := fun e => by rw [e, hp] at nx; cases nx
    refine ⟨_, rfl, rSt_but (s1 _ _ hp) T.t_State.c T.n_State_look (by show 0 < 1000; decide) fun H2 b2 h2 => ?_⟩
    refine ⟨sz (by decide), fun l0 nl0 => ⟨sz (by decide), fun L nL => ?_⟩⟩
    have s3 : Same H2 (upd (upd H2 l0 (.lst [])) L (.lst [.ref l0])) := (same_upd nl0).trans (same_upd nL)
    have nl0L : l0 ≠ L := fun e => by rw [e, upd_same] at nL; cases nL
    have nLp : L ≠ p := fun e => by rw [e, (same_upd nl0) _ _ h2] at nL; cases nL
    have nl0p : l0 ≠ p := fun e => by rw [e, h2] at nl0; cases nl0
    have hl0 : (upd (upd H2 l0 (.lst [])) L (.lst [.ref l0])) l0 = some (.lst []) := by rw [upd_ne nl0L, upd_same]
    refine ⟨_, rfl, rSt_but (s3 _ _ h2) T.t_State.c T.n_State_lines (by show 1 < 1000; decide) fun H4 b4 h4 => ?_⟩
    refine ⟨sz (by decide), fun F nF => ?_⟩
    have nFp : F ≠ p := fun e => by rw [e, h4] at nF; cases nF
    have s5 : Same H4 (upd H4 F (.lst [])) := same_upd nF
    refine ⟨_, rfl, rSt_but (s5 _ _ h4) T.t_State.c T.n_State_folds (by show 2 < 1000; decide) fun H6 b6 h6 => ?_⟩
    refine ⟨_, rfl, rSt_but h6 T.t_State.c T.n_State_line (by show 3 < 1000; decide) fun H7 b7 h7 => ?_⟩
    refine ⟨_, rfl, rSt_but h7 T.t_State.c T.n_State_place (by show 4 < 1000; decide) fun H8 b8 h8 => ?_⟩
    refine ⟨_, rfl, rSt_but h8 T.t_State.c T.n_State_wished (by show 5 < 1000; decide) fun H9 b9 h9 => ?_⟩
    refine ⟨_, rfl, rSt_but h9 T.t_State.c T.n_State_high (by show 6 < 1000; decide) fun H10 b10 h10 => ?_⟩
    refine ⟨_, rfl, rSt_but h10 T.t_State.c T.n_State_margin (by show 7 < 1000; decide) fun H11 b11 h11 => ?_⟩
    refine ⟨_, rfl, rSt_but h11 T.t_State.c T.n_State_top (by show 8 < 1000; decide) fun H12 b12 h12 => ?_⟩
    have b6' : But p H6 H12 := b7.trans (b8.trans (b9.trans (b10.trans (b11.trans b12))))
    have b4' : But p H4 H12 := ((same_but s5 p).trans b6).trans b6'
    have b2' : But p H2 H12 := ((same_but s3 p).trans b4).trans b4'
    have b0 : But p H H12 := ((same_but s1 p).trans b2).trans b2'
    rw [new_State] at h12
    obtain ⟨dk, hk⟩ := hk
    refine q H12 x L F [.ref l0] [] ⟨h12, ⟨dk, b2' _ _ (b2 _ _ hk nxp) nxp⟩, b4' _ _ (b4 _ _ upd_same nLp) nLp, .cons ⟨l0, rfl, b4' _ _ (b4 _ _ hl0 nl0p) nl0p⟩ .nil, b6' _ _ (b6 _ _ upd_same nFp) nFp, .nil, (fun z => by rw [List.mem_singleton] at z; cases z; have z := b4 _ _ hl0 nl0p; rw [nF] at z; cases z), (fun e => by rw [← e] at nF; have z := b4 _ _ upd_same nLp; rw [nF] at z; cases z)⟩ b0
def sp_seen_lines (A : Ad) : Sp := fun vs H Q _ => ∃ (s dx lk L F : Addr) (ls ts : List V) (g : Ue07.St), vs = [.ref s] ∧ StAt A H s dx lk L F ls ts g ∧ g.lines.length ≤ 30 ∧
  ∀ H' p, Same H H' → H p = none → H' p = some (.lst (nV (Ue07.seen g.folds g.lines.length))) → Q (.ref p) H'
theorem sc_seen_lines : FnScope ["state", "number"] ["state"] (defScope s_seen_lines) := ⟨rfl, rfl, rfl, by decide +kernel, rfl, by decide +kernel, by decide +kernel⟩
-- slots of seen_lines: state 0, number 1
theorem ok_seen_lines (T : Tx K mg A) : FnOk P w K mg base CX0 3 A.f_seen_lines A.d_seen_lines ["state"] (sp_seen_lines A) := by
  refine T.t_seen_lines.F.ok sc_seen_lines (fun vs H Q E h => ?_) (fun cdv Ar outer s0 H vs Q E hr h => ?_)
  · obtain ⟨s, dx, lk, L, F, ls, ts, g, rfl, _⟩ := h
    rfl
  · obtain ⟨s, dx, lk, L, F, ls, ts, g, rfl, h⟩ := h
    refine ⟨_, (pss_one (ps_ret (pe_lc (own := [("number", 1)]) (tt := (tNot (tB (tCall sp_is_hidden [] E0 (tCons (tFld K (tVar 0) "folds") (tCons (tVar 1) tNil)))))) (te := (tVar 1)) (g := gName 1) rfl sc_seen_lines.nd (pi_range1 rfl T.z_range (pa_cons (pe_callB call_len_seq (by rfl) T.z_len PySem.boot_len (pa_cons (pe_fld (pv 0) rfl) pa_nil)) pa_nil)) (blkOk_by (own := [("number", 1)]) (N := ["state", "number"]) (sc := defScope s_seen_lines) (by decide +kernel)) (fun _ _ _ _ _ => pg_name (i := 1) sc_seen_lines.nd rfl (Or.inl rfl)) (fun _ _ _ _ _ => pts_one (pt_not (pt_val (pe_call (ok_is_hidden T) (hr.mono (by decide)) (by rfl) T.t_is_hidden.g T.t_is_hidden.F.kp T.t_is_hidden.b .nil pass0 (pa_cons (pe_fld (pv 0) rfl) (pa_cons (pv 1) pa_nil)))))) (fun _ _ _ _ _ => (pv 1))))), ?_⟩
    dsimp only [tRet, tRetN, tChain, tOp, tUn, tC, tVar, tSeq, tIfS, tAsg, gName, tTest, tB, tAnd, tOr, tNot, tAndV, tOrV, tNotV, tFld_eq, sFld_eq, sFldAug, L2.rAdd, L2.rSub, tCons, tNil, tLst, tTup, tCall, tMake, tCB, tCKw, tBM, tSl, tPart, tNoPart, tDrop, tNext, tBreak, iList, iRng1, iEnum, gTup, gCons, gNil, tAug, ipI, rI0, rI, rU, cxOf, Cx.nox, Cx.wish, L2.start, List.map, List.length, List.replicate, List.append]
    obtain ⟨S, h30, q⟩ := h
    have hls := S.lA.len
    refine w_lc ?_
    refine ⟨_, rfl, r_State_lines T S.o ?_⟩
    refine ⟨L, _, rfl, .inl (SqL.of S.l), ?_⟩
    refine ⟨_, rfl, by omega, by omega, ?_⟩
    refine lcG_range (n := ls.length) (fun D i H' => Same H H' ∧ H' D = some (.lst (nV ((List.range i).filter fun j => !Ue07.hidden g.folds j)))) (fun D nD => ⟨same_upd nD, upd_same⟩) ?_ ?_
    · rintro D nD i H' hi ⟨s1, hD⟩
      rw [Int.zero_add]
      have S1 := S.same s1
      refine ⟨rfl, ?_⟩
      refine ⟨_, rfl, r_State_folds T S1.o ?_⟩
      refine ⟨_, rfl, F, ts, g.folds, i, rfl, S1.f, S1.fA, _, rfl, ?_⟩
      have ef : (List.range (i + 1)).filter (fun j => !Ue07.hidden g.folds j) = (List.range i).filter (fun j => !Ue07.hidden g.folds j) ++ (if Ue07.hidden g.folds i = true then [] else [i]) := by
        rw [List.range_succ, List.filter_append]
        cases hh : Ue07.hidden g.folds i with
        | true => rw [if_pos rfl, List.filter_cons_of_neg (by simp [hh]), List.filter_nil]
        | false => rw [if_neg (by decide), List.filter_cons_of_pos (by simp [hh]), List.filter_nil]
      cases hh : Ue07.hidden g.folds i with
      | true =>
        rw [hh, if_pos rfl, List.append_nil] at ef
        refine iteF ⟨s1, ?_⟩
        rw [ef]
        exact hD
      | false =>
        rw [hh, if_neg (by decide)] at ef
        refine iteT ⟨_, rfl, _, hD, szl ?_, fun z o hz => ?_, ?_⟩
        · rw [nV_len]
          have := List.length_filter_le (fun j => !Ue07.hidden g.folds j) (List.range i)
          rw [List.length_range] at this
          omega
        · rw [upd_ne (ne_of_none hz nD)]
          exact s1 _ _ hz
        · rw [upd_same, ef]
          unfold nV
          rw [List.map_append]
          rfl
    · rintro D nD H' ⟨s1, hD⟩
      rw [hls] at hD
      exact q H' D s1 nD hD
def sp_seen_rows (A : Ad) : Sp := fun vs H Q _ => ∃ (s dx lk L F : Addr) (ls ts : List V) (g : Ue07.St), vs = [.ref s] ∧ StAt A H s dx lk L F ls ts g ∧ WF0 g ∧
  ∀ H' p xs, Same H H' → H p = none → H' p = some (.lst xs) → All2 (RwV A H') xs (Ue07.allRows g) → Q (.ref p) H'
theorem WF0.tabOk (h : WF0 g) : FV.tabOk g.look := ⟨(lookOk_iff.mp h.lk).2.2.1, (lookOk_iff.mp h.lk).2.2.2.1⟩
theorem sc_seen_rows : FnScope ["state", "rows", "number"] ["state"] (defScope s_seen_rows) := ⟨rfl, rfl, rfl, by decide +kernel, rfl, by decide +kernel, by decide +kernel⟩
-- slots of seen_rows: state 0, rows 1, number 2
theorem ok_seen_rows (T : Tx K mg A) : FnOk P w K mg base CX0 5 A.f_seen_rows A.d_seen_rows ["state"] (sp_seen_rows A) := by
  refine T.t_seen_rows.F.ok sc_seen_rows (fun vs H Q E h => ?_) (fun cdv Ar outer s0 H vs Q E hr h => ?_)
  · obtain ⟨s, dx, lk, L, F, ls, ts, g, rfl, _⟩ := h
    rfl
  · obtain ⟨s, dx, lk, L, F, ls, ts, g, rfl, h⟩ := h
    refine ⟨_, (pss_cons (ps_set (i := 1) sc_seen_rows.nd rfl (.inl rfl) (pe_lst pa_nil))
      (pss_cons (ps_for PassesOwn.never rfl (pi_list (pe_call (ok_seen_lines T) (hr.mono (by decide)) (by rfl) T.t_seen_lines.g T.t_seen_lines.F.kp T.t_seen_lines.b .nil pass0 (pa_cons (pv 0) pa_nil))) (pg_name (i := 2) sc_seen_rows.nd rfl (.inl rfl)) (pss_one (ps_expr (pe_bm PySem.F.plainAttrs_list PySem.F.slot_list_extend PySem.F.type_list_extend mt_extend (pv 1) (pa_cons (pe_call (ok_line_rows T) (hr.mono (by decide)) (by rfl) T.t_line_rows.g T.t_line_rows.F.kp T.t_line_rows.b .nil pass0 (pa_cons (pe_fld (pv 0) rfl) (pa_cons (pv 2) (pa_cons (pe_ix ix_list (pe_fld (pv 0) rfl) (pv 2) (fun _ _ => rfl)) pa_nil)))) pa_nil)))))
      (pss_one (ps_ret (pv 1))))), ?_⟩
    dsimp only [tRet, tRetN, tChain, tOp, tUn, tC, tVar, tSeq, tIfS, tAsg, gName, tTest, tB, tAnd, tOr, tNot, tAndV, tOrV, tNotV, tFld_eq, sFld_eq, sFldAug, L2.rAdd, L2.rSub, tCons, tNil, tLst, tTup, tCall, tMake, tCB, tCKw, tBM, tSl, tPart, tNoPart, tDrop, tNext, tBreak, iList, iRng1, iEnum, gTup, gCons, gNil, tAug, ipI, rI0, rI, rU, cxOf, Cx.nox, Cx.wish, L2.start, List.map, List.length, List.replicate, List.append]
    obtain ⟨S, W, q⟩ := h
    refine ⟨sz (by decide), fun p np => ?_⟩
    have s1 : Same H (upd H p (.lst [])) := same_upd np
    refine w_for ?_
    refine ⟨_, rfl, s, dx, lk, L, F, ls, ts, g, rfl, S.same s1, W.n2, fun H2 sl s2 nsl hsl => ?_⟩
    refine ⟨sl, rfl, ⟨_, SqL.of hsl⟩, ?_⟩
    have npl : sl ≠ p := fun e => by rw [e, upd_same] at nsl; cases nsl
    have hlen := W.all_len
    refine forG_list (xs := nV (Ue07.seen g.folds g.lines.length)) (fun i σ H' => (∃ v, σ = [some (.ref s), some (.ref p), v]) ∧ Same H H' ∧ H' sl = some (.lst (nV (Ue07.seen g.folds g.lines.length))) ∧ ∃ xs, H' p = some (.lst xs) ∧ All2 (RwV A H') xs (((Ue07.seen g.folds g.lines.length).take i).flatMap (tag (rowsOf g))))
      ⟨⟨_, rfl⟩, s1.trans s2, hsl, [], s2 _ _ upd_same, .nil⟩ (fun i σ H' _ ⟨_, _, h, _⟩ => SqL.of h) ?_ ?_
    · rintro i x σ H' hx ⟨⟨v, rfl⟩, s3, hsl3, xs, hp, hA⟩
      obtain ⟨n, hn, rfl⟩ := of_nV hx
      have hmem := mem_seen.mp (List.mem_of_getElem? hn)
      have S3 := S.same s3
      obtain ⟨a, ha1, ha2⟩ := S3.line_at hmem.1
      refine ⟨_, rfl, .inl ⟨rfl, _, SqL.of hp⟩, ?_⟩
      refine ⟨_, rfl, r_State_look T S3.o ?_⟩
      refine ⟨_, rfl, _, rfl, r_State_lines T S3.o ?_⟩
      refine ⟨_, rfl, L, _, _, _, rfl, rfl, SqL.of S3.l, atI_nat ha1, ?_⟩
      refine ⟨lk, n, a, g.look, Ue07.lineAt g n, rfl, S3.k, W.tabOk, SqL.of ha2, W.len n, fun H4 p4 xs4 s4 np4 hp4 hA4 => ?_⟩
      have hp4' := s4 _ _ hp
      have et : ((Ue07.seen g.folds g.lines.length).take (i + 1)).flatMap (tag (rowsOf g)) = ((Ue07.seen g.folds g.lines.length).take i).flatMap (tag (rowsOf g)) ++ tag (rowsOf g) n := by
        rw [take_snoc hn, List.flatMap_append, List.flatMap_cons, List.flatMap_nil, List.append_nil]
      have hsz : (((Ue07.seen g.folds g.lines.length).take (i + 1)).flatMap (tag (rowsOf g))).length ≤ (Ue07.allRows g).length := by
        rw [allRows_eq]
        conv => rhs; rw [← List.take_append_drop (i + 1) (Ue07.seen g.folds g.lines.length), List.flatMap_append, List.length_append]
        exact Nat.le_add_right _ _
      have e1 := hA.len
      have e2 := hA4.len
      rw [et, List.length_append] at hsz
      have e3 : xs4.length = (tag (rowsOf g) n).length := e2
      refine ⟨p, p4, xs, xs4, rfl, rfl, hp4', hp4, sz (by omega), ?_⟩
      refine ⟨⟨_, rfl⟩, fun z o hz => ?_, ?_, xs ++ xs4, upd_same, ?_⟩
      · rw [upd_ne (ne_of_none hz np)]
        exact s4 _ _ (s3 _ _ hz)
      · rw [upd_ne npl]
        exact s4 _ _ hsl3
      · rw [et]
        exact (Rows.upd_lst hp4' (rws_same s4 hA)).append (Rows.upd_lst hp4' hA4)
    · rintro σ H' ⟨⟨v, rfl⟩, s3, hsl3, xs, hp, hA⟩
      rw [nV_len, List.take_length] at hA
      exact ⟨_, rfl, q H' p xs s3 np hp hA⟩
def sp_row_number (A : Ad) : Sp := fun vs H Q _ => ∃ (p : Addr) (n pl : Nat) (xs : List V) (rs : List (Nat × Ue07.Row)), vs = [.ref p, .int n, .int pl] ∧ H p = some (.lst xs) ∧ All2 (RwV A H) xs rs ∧
  ∀ H', Same H H' → Q (.int ((rn n pl 0 0 rs : Nat) : Int)) H'
theorem rn_snoc {n pl i : Nat} {rs : List (Nat × Ue07.Row)} {x : Nat × Ue07.Row} (h : rs[i]? = some x) : rn n pl 0 0 (rs.take (i + 1)) = if x.1 = n ∧ x.2.a ≤ pl then i else rn n pl 0 0 (rs.take i) := by
  have hl : (rs.take i).length = i := by
    have := (List.getElem?_eq_some_iff.mp h).1
    rw [List.length_take]
    omega
  rw [take_snoc h, rn_append, hl, Nat.zero_add]
  rfl
theorem sc_row_number : FnScope ["rows", "line", "place", "found", "number", "row"] ["rows", "line", "place"] (defScope s_row_number) := ⟨rfl, rfl, rfl, by decide +kernel, rfl, by decide +kernel, by decide +kernel⟩
-- slots of row_number: rows 0, line 1, place 2, found 3, number 4, row 5
theorem ok_row_number (T : Tx K mg A) : FnOk P w K mg base CX0 1 A.f_row_number A.d_row_number ["rows", "line", "place"] (sp_row_number A) := by
  refine T.t_row_number.F.ok sc_row_number (fun vs H Q E h => ?_) (fun cdv Ar outer s0 H vs Q E hr h => ?_)
  · obtain ⟨p, n, pl, xs, rs, rfl, _⟩ := h
    rfl
  · obtain ⟨p, n, pl, xs, rs, rfl, h⟩ := h
    refine ⟨_, (pss_cons (ps_set (i := 3) sc_row_number.nd rfl (.inl rfl) (pe_int))
      (pss_cons (ps_for PassesOwn.never rfl (pi_enum (by rfl) T.z_enumerate (pa_cons (pv 0) pa_nil)) (pg_tup rfl (pgs_cons (pg_name (i := 4) sc_row_number.nd rfl (.inl rfl)) (pgs_cons (pg_name (i := 5) sc_row_number.nd rfl (.inl rfl)) pgs_nil))) (pss_one (ps_if (PW.pt (pw_and (pt_cmpR op_eq (pe_fld (pv 5) rfl) (pv 1) (nomark _)) (pw_and1 (pt_cmpR op_le (pe_fld (pv 5) rfl) (pv 2) (nomark _))))) (pss_one (ps_set (i := 3) sc_row_number.nd rfl (.inl rfl) (pv 4))) pss_nil)))
      (pss_one (ps_ret (pv 3))))), ?_⟩
    dsimp only [tRet, tRetN, tChain, tOp, tUn, tC, tVar, tSeq, tIfS, tAsg, gName, tTest, tB, tAnd, tOr, tNot, tAndV, tOrV, tNotV, tFld_eq, sFld_eq, sFldAug, L2.rAdd, L2.rSub, tCons, tNil, tLst, tTup, tCall, tMake, tCB, tCKw, tBM, tSl, tPart, tNoPart, tDrop, tNext, tBreak, iList, iRng1, iEnum, gTup, gCons, gNil, tAug, ipI, rI0, rI, rU, cxOf, Cx.nox, Cx.wish, L2.start, List.map, List.length, List.replicate, List.append]
    obtain ⟨hp, hA, q⟩ := h
    refine w_for ?_
    refine ⟨_, rfl, p, xs, rfl, SqL.of hp, ?_⟩
    refine forG_it (walk_enum (xs := xs)) (fun i σ H' => Same H H' ∧ ∃ v1 v2, σ = [some (.ref p), some (.int n), some (.int pl), some (.int ((rn n pl 0 0 (rs.take i) : Nat) : Int)), v1, v2]) ⟨Same.refl H, _, _, rfl⟩ (fun i σ H' _ ⟨s1, _⟩ => SqL.of (s1 _ _ hp)) ?_ ?_
    · rintro i x σ H' H2 hi ⟨s1, v1, v2, rfl⟩ ⟨Tt, x1, y1, rfl, nT, rfl, h1, h2⟩
      cases h1
      obtain ⟨r, hr2, a, rfl, dr, ha⟩ := hA.get h2
      have s2 : Same H' (upd H' Tt (.tup [.int (i : Nat), .ref a])) := same_upd nT
      have ha2 := s2 _ _ (s1 _ _ ha)
      refine ⟨Tt, _, rfl, SqT.of upd_same, rfl, _, _, rfl, _, _, rfl, rfl, ?_⟩
      refine ⟨_, rfl, r_Row_line T ha2 ?_⟩
      have er := rn_snoc (n := n) (pl := pl) hr2
      refine ⟨_, rfl, rfl, _, rfl, ifv (fun c => ?_) (fun c => ?_)⟩
      · refine ⟨_, rfl, r_Row_begin T ha2 ?_⟩
        refine ⟨_, rfl, _, _, rfl, rfl, _, rfl, ifd (fun c1 => ?_) (fun c1 => ?_)⟩
        · refine ⟨_, rfl, s1.trans s2, some (.int i), some (.ref a), ?_⟩
          rw [er, if_pos ⟨by omega, by omega⟩]
          rfl
        · refine ⟨s1.trans s2, some (.int i), some (.ref a), ?_⟩
          rw [er, if_neg (fun z => by omega)]
          rfl
      · refine iteF ⟨s1.trans s2, some (.int i), some (.ref a), ?_⟩
        rw [er, if_neg (fun z => by omega)]
        rfl
    · rintro σ H' ⟨s1, v1, v2, rfl⟩
      rw [hA.len, List.take_length]
      exact ⟨_, rfl, q H' s1⟩
end
end FV
namespace FV
open PySem PySem.Spec PyProof.Rows L2
def iV (l : List Int) : List V := l.map V.int
section
variable {P : Program} {w : World} {K : PySem.W.Frag} {mg : Str → Option Value} {base : Heap} {A : Ad}
variable {H H' : Hp} {s dx lk L F : Addr} {ls ts : List V} {g : Ue07.St}
/-- where a place of a line that's seen is -/
def rowIx (g : Ue07.St) (n p : Nat) : Nat := Ue07.rowsAhead g n + (Ue07.rowAt g.look (Ue07.lineAt g n) p).1
theorem WF0.wide (h : WF0 g) : 1 ≤ g.look.wide := by have := (lookOk_iff.mp h.lk).1; omega
def sp_place_answer (A : Ad) : Sp := fun vs H Q _ => ∃ (s dx lk L F : Addr) (ls ts : List V) (g : Ue07.St) (p : Addr) (xs : List V) (n pl : Nat), vs = [.ref s, .ref p, .int n, .int pl] ∧ StAt A H s dx lk L F ls ts g ∧ WF0 g ∧ H p = some (.lst xs) ∧ All2 (RwV A H) xs (Ue07.allRows g) ∧
  n ∈ Ue07.seen g.folds g.lines.length ∧ ∀ H' q, Same H H' → H q = none → H' q = some (.lst [.int ((rowIx g n pl : Int) - g.top), .int (Ue07.colAt g.look (Ue07.lineAt g n) pl : Nat)]) → Q (.ref q) H'
theorem sc_place_answer : FnScope ["state", "rows", "line", "place", "number", "column"] ["state", "rows", "line", "place"] (defScope s_place_answer) := ⟨rfl, rfl, rfl, by decide +kernel, rfl, by decide +kernel, by decide +kernel⟩
-- slots of place_answer: state 0, rows 1, line 2, place 3, number 4, column 5
theorem ok_place_answer (T : Tx K mg A) : FnOk P w K mg base CX0 4 A.f_place_answer A.d_place_answer ["state", "rows", "line", "place"] (sp_place_answer A) := by
  refine T.t_place_answer.F.ok sc_place_answer (fun vs H Q E h => ?_) (fun cdv Ar outer s0 H vs Q E hr h => ?_)
  · obtain ⟨s, dx, lk, L, F, ls, ts, g, p, xs, n, pl, rfl, _⟩ := h
    rfl
  · obtain ⟨s, dx, lk, L, F, ls, ts, g, p, xs, n, pl, rfl, h⟩ := h
    refine ⟨_, (pss_cons (ps_set (i := 4) sc_place_answer.nd rfl (.inl rfl) (pe_call (ok_row_number T) (hr.mono (by decide)) (by rfl) T.t_row_number.g T.t_row_number.F.kp T.t_row_number.b .nil pass0 (pa_cons (pv 1) (pa_cons (pv 2) (pa_cons (pv 3) pa_nil)))))
      (pss_cons (ps_set (i := 5) sc_place_answer.nd rfl (.inl rfl) (pe_call (ok_place_column T) (hr.mono (by decide)) (by rfl) T.t_place_column.g T.t_place_column.F.kp T.t_place_column.b .nil pass0 (pa_cons (pe_fld (pv 0) rfl) (pa_cons (pe_ix ix_list (pe_fld (pv 0) rfl) (pv 2) (fun _ _ => rfl)) (pa_cons (pe_ix ix_list (pv 1) (pv 4) (fun _ _ => rfl)) (pa_cons (pv 3) pa_nil))))))
      (pss_one (ps_ret (pe_lst (pa_cons (pe_op op_sub (pv 4) (pe_fld (pv 0) rfl)) (pa_cons (pv 5) pa_nil))))))), ?_⟩
    dsimp only [tRet, tRetN, tChain, tOp, tUn, tC, tVar, tSeq, tIfS, tAsg, gName, tTest, tB, tAnd, tOr, tNot, tAndV, tOrV, tNotV, tFld_eq, sFld_eq, sFldAug, L2.rAdd, L2.rSub, tCons, tNil, tLst, tTup, tCall, tMake, tCB, tCKw, tBM, tSl, tPart, tNoPart, tDrop, tNext, tBreak, iList, iRng1, iEnum, gTup, gCons, gNil, tAug, ipI, rI0, rI, rU, cxOf, Cx.nox, Cx.wish, L2.start, List.map, List.length, List.replicate, List.append]
    obtain ⟨S, W, hp, hA, hn, q⟩ := h
    obtain ⟨er, eg⟩ := place_row (p := pl) W.tab hn
    refine ⟨_, rfl, _, rfl, _, rfl, p, n, pl, xs, _, rfl, hp, hA, fun H1 s1 => ?_⟩
    rw [er]
    have S1 := S.same s1
    obtain ⟨a, ha1, ha2⟩ := S1.line_at (mem_seen.mp hn).1
    obtain ⟨y, hy, r, rfl, hr2⟩ := (rws_same s1 hA).get' eg
    refine ⟨_, rfl, r_State_look T S1.o ?_⟩
    refine ⟨_, rfl, r_State_lines T S1.o ?_⟩
    refine ⟨_, rfl, L, _, _, _, rfl, rfl, SqL.of S1.l, atI_nat ha1, ?_⟩
    refine ⟨_, rfl, _, rfl, p, _, _, _, rfl, rfl, SqL.of (s1 _ _ hp), atI_nat hy, _, rfl, ?_⟩
    refine ⟨lk, a, r, g.look, Ue07.lineAt g n, _, pl, rfl, S1.k, W.tabOk, W.wide, SqL.of ha2, hr2, fun H2 s2 => ?_⟩
    have S2 := S1.same s2
    refine ⟨_, rfl, _, rfl, r_State_top T S2.o ?_⟩
    refine ⟨_, _, rfl, rfl, _, rfl, sz (by decide), fun z nz => ?_⟩
    exact q _ z ((s1.trans s2).trans (same_upd nz)) ((s1.trans s2).free nz) upd_same
def sp_point_answer (A : Ad) : Sp := fun vs H Q _ => ∃ (s dx lk L F : Addr) (ls ts : List V) (g : Ue07.St) (p : Addr) (xs : List V), vs = [.ref s, .ref p] ∧ StAt A H s dx lk L F ls ts g ∧ WF0 g ∧ g.top ≤ Ue07.pointRow g ∧ H p = some (.lst xs) ∧ All2 (RwV A H) xs (Ue07.allRows g) ∧
  ∀ H' q, Same H H' → H q = none → H' q = some (.lst (iV (Ue07.pointAnswer g))) → Q (.ref q) H'
theorem sc_point_answer : FnScope ["state", "rows"] ["state", "rows"] (defScope s_point_answer) := ⟨rfl, rfl, rfl, by decide +kernel, rfl, by decide +kernel, by decide +kernel⟩
-- slots of point_answer: state 0, rows 1
theorem ok_point_answer (T : Tx K mg A) : FnOk P w K mg base CX0 5 A.f_point_answer A.d_point_answer ["state", "rows"] (sp_point_answer A) := by
  refine T.t_point_answer.F.ok sc_point_answer (fun vs H Q E h => ?_) (fun cdv Ar outer s0 H vs Q E hr h => ?_)
  · obtain ⟨s, dx, lk, L, F, ls, ts, g, p, xs, rfl, _⟩ := h
    rfl
  · obtain ⟨s, dx, lk, L, F, ls, ts, g, p, xs, rfl, h⟩ := h
    refine ⟨_, (pss_one (ps_ret (pe_op op_cat (pe_lst (pa_cons (pe_fld (pv 0) rfl) (pa_cons (pe_fld (pv 0) rfl) pa_nil))) (pe_call (ok_place_answer T) (hr.mono (by decide)) (by rfl) T.t_place_answer.g T.t_place_answer.F.kp T.t_place_answer.b .nil pass0 (pa_cons (pv 0) (pa_cons (pv 1) (pa_cons (pe_fld (pv 0) rfl) (pa_cons (pe_fld (pv 0) rfl) pa_nil)))))))), ?_⟩
    dsimp only [tRet, tRetN, tChain, tOp, tUn, tC, tVar, tSeq, tIfS, tAsg, gName, tTest, tB, tAnd, tOr, tNot, tAndV, tOrV, tNotV, tFld_eq, sFld_eq, sFldAug, L2.rAdd, L2.rSub, tCons, tNil, tLst, tTup, tCall, tMake, tCB, tCKw, tBM, tSl, tPart, tNoPart, tDrop, tNext, tBreak, iList, iRng1, iEnum, gTup, gCons, gNil, tAug, ipI, rI0, rI, rU, cxOf, Cx.nox, Cx.wish, L2.start, List.map, List.length, List.replicate, List.append]
    obtain ⟨S, W, ht, hp, hA, q⟩ := h
    refine ⟨_, rfl, r_State_line T S.o ?_⟩
    refine ⟨_, rfl, r_State_place T S.o ?_⟩
    refine ⟨sz (by decide), fun z nz => ?_⟩
    have s1 : Same H (upd H z (.lst [.int g.line, .int g.place])) := same_upd nz
    have S1 := S.same s1
    refine ⟨_, rfl, _, rfl, _, rfl, r_State_line T S1.o ?_⟩
    refine ⟨_, rfl, r_State_place T S1.o ?_⟩
    refine ⟨s, dx, lk, L, F, ls, ts, g, p, xs, g.line, g.place, rfl, S1, W, s1 _ _ hp, rws_same s1 hA, W.mem, fun H2 y s2 ny hy => ?_⟩
    refine ⟨z, y, _, _, rfl, rfl, s2 _ _ upd_same, hy, sz (by show 2 + 2 ≤ 100000; decide), fun v nv => ?_⟩
    refine q _ v ((s1.trans s2).trans (same_upd nv)) ((s1.trans s2).free nv) ?_
    rw [upd_same]
    have e : ((rowIx g g.line g.place : Nat) : Int) - (g.top : Int) = ((Ue07.pointRow g - g.top : Nat) : Int) := by
      show ((Ue07.pointRow g : Nat) : Int) - (g.top : Int) = _
      omega
    rw [e]
    rfl
def sp_row_place (A : Ad) : Sp := fun vs H Q _ => ∃ (s dx lk L F : Addr) (ls ts : List V) (g : Ue07.St) (r : Addr) (x : Nat × Ue07.Row) (c : Nat), vs = [.ref s, .ref r, .int c] ∧ StAt A H s dx lk L F ls ts g ∧ WF0 g ∧ RwAt A H r x ∧ x.1 < g.lines.length ∧ x.2 ∈ rowsOf g x.1 ∧ Q (.int (Ue07.placeIn g.look (Ue07.lineAt g x.1) x.2 c : Nat)) H
theorem sc_row_place : FnScope ["state", "row", "column"] ["state", "row", "column"] (defScope s_row_place) := ⟨rfl, rfl, rfl, by decide +kernel, rfl, by decide +kernel, by decide +kernel⟩
-- slots of row_place: state 0, row 1, column 2
theorem ok_row_place (T : Tx K mg A) : FnOk P w K mg base CX0 3 A.f_row_place A.d_row_place ["state", "row", "column"] (sp_row_place A) := by
  refine T.t_row_place.F.ok sc_row_place (fun vs H Q E h => ?_) (fun cdv Ar outer s0 H vs Q E hr h => ?_)
  · obtain ⟨s, dx, lk, L, F, ls, ts, g, r, x, c, rfl, _⟩ := h
    rfl
  · obtain ⟨s, dx, lk, L, F, ls, ts, g, r, x, c, rfl, h⟩ := h
    refine ⟨_, (pss_one (ps_ret (pe_call (ok_place_for T) (hr.mono (by decide)) (by rfl) T.t_place_for.g T.t_place_for.F.kp T.t_place_for.b .nil pass0 (pa_cons (pe_fld (pv 0) rfl) (pa_cons (pe_ix ix_list (pe_fld (pv 0) rfl) (pe_fld (pv 1) rfl) (fun _ _ => rfl)) (pa_cons (pv 1) (pa_cons (pv 2) pa_nil))))))), ?_⟩
    dsimp only [tRet, tRetN, tChain, tOp, tUn, tC, tVar, tSeq, tIfS, tAsg, gName, tTest, tB, tAnd, tOr, tNot, tAndV, tOrV, tNotV, tFld_eq, sFld_eq, sFldAug, L2.rAdd, L2.rSub, tCons, tNil, tLst, tTup, tCall, tMake, tCB, tCKw, tBM, tSl, tPart, tNoPart, tDrop, tNext, tBreak, iList, iRng1, iEnum, gTup, gCons, gNil, tAug, ipI, rI0, rI, rU, cxOf, Cx.nox, Cx.wish, L2.start, List.map, List.length, List.replicate, List.append]
    obtain ⟨S, W, ⟨dr, hr2⟩, h1, h2, q⟩ := h
    have hm := (rows_tiles W.tab (Ue07.lineAt g x.1)).mem x.2 h2
    obtain ⟨a, ha1, ha2⟩ := S.line_at h1
    refine ⟨_, rfl, r_State_look T S.o ?_⟩
    refine ⟨_, rfl, r_State_lines T S.o ?_⟩
    refine ⟨_, rfl, r_Row_line T hr2 ?_⟩
    refine ⟨L, _, _, _, rfl, rfl, SqL.of S.l, atI_nat ha1, ?_⟩
    exact ⟨_, rfl, _, rfl, lk, a, r, g.look, Ue07.lineAt g x.1, x, c, rfl, S.k, W.tabOk, SqL.of ha2, ⟨dr, hr2⟩, hm.2.1, hm.2.2.1, hm.2.2.2, q⟩
def sp_real_margin (A : Ad) : Sp := fun vs H Q _ => ∃ (s dx lk L F : Addr) (ls ts : List V) (g : Ue07.St), vs = [.ref s] ∧ StAt A H s dx lk L F ls ts g ∧ 1 ≤ g.high ∧ Q (.int (FV.margin g : Nat)) H
theorem sc_real_margin : FnScope ["state"] ["state"] (defScope s_real_margin) := ⟨rfl, rfl, rfl, by decide +kernel, rfl, by decide +kernel, by decide +kernel⟩
-- slots of real_margin: state 0
theorem ok_real_margin (T : Tx K mg A) : FnOk P w K mg base CX0 1 A.f_real_margin A.d_real_margin ["state"] (sp_real_margin A) := by
  refine T.t_real_margin.F.ok sc_real_margin (fun vs H Q E h => ?_) (fun cdv Ar outer s0 H vs Q E hr h => ?_)
  · obtain ⟨s, dx, lk, L, F, ls, ts, g, rfl, _⟩ := h
    rfl
  · obtain ⟨s, dx, lk, L, F, ls, ts, g, rfl, h⟩ := h
    refine ⟨_, (pss_one (ps_ret (pe_callB (call_min2 rfl) (by rfl) T.z_min (by decide +kernel) (pa_cons (pe_fld (pv 0) rfl) (pa_cons (pe_op op_fdiv (pe_op op_sub (pe_fld (pv 0) rfl) (pe_int)) (pe_int)) pa_nil))))), ?_⟩
    dsimp only [tRet, tRetN, tChain, tOp, tUn, tC, tVar, tSeq, tIfS, tAsg, gName, tTest, tB, tAnd, tOr, tNot, tAndV, tOrV, tNotV, tFld_eq, sFld_eq, sFldAug, L2.rAdd, L2.rSub, tCons, tNil, tLst, tTup, tCall, tMake, tCB, tCKw, tBM, tSl, tPart, tNoPart, tDrop, tNext, tBreak, iList, iRng1, iEnum, gTup, gCons, gNil, tAug, ipI, rI0, rI, rU, cxOf, Cx.nox, Cx.wish, L2.start, List.map, List.length, List.replicate, List.append]
    obtain ⟨S, h1, q⟩ := h
    refine ⟨_, rfl, r_State_margin T S.o ?_⟩
    refine ⟨_, rfl, r_State_high T S.o ?_⟩
    refine ⟨_, _, rfl, rfl, _, _, rfl, rfl, ⟨by decide, by decide⟩, _, _, rfl, ?_⟩
    have e : ((g.high : Int) - 1) / 2 = (((g.high - 1) / 2 : Nat) : Int) := by omega
    rw [e, min2]
    exact q
def sp_last_top (A : Ad) : Sp := fun vs H Q _ => ∃ (s dx lk L F : Addr) (ls ts : List V) (g : Ue07.St) (p : Addr) (xs : List V), vs = [.ref s, .ref p] ∧ StAt A H s dx lk L F ls ts g ∧ H p = some (.lst xs) ∧ Q (.int (xs.length - g.high : Nat)) H
theorem sc_last_top : FnScope ["state", "rows"] ["state", "rows"] (defScope s_last_top) := ⟨rfl, rfl, rfl, by decide +kernel, rfl, by decide +kernel, by decide +kernel⟩
-- slots of last_top: state 0, rows 1
theorem ok_last_top (T : Tx K mg A) : FnOk P w K mg base CX0 1 A.f_last_top A.d_last_top ["state", "rows"] (sp_last_top A) := by
  refine T.t_last_top.F.ok sc_last_top (fun vs H Q E h => ?_) (fun cdv Ar outer s0 H vs Q E hr h => ?_)
  · obtain ⟨s, dx, lk, L, F, ls, ts, g, p, xs, rfl, _⟩ := h
    rfl
  · obtain ⟨s, dx, lk, L, F, ls, ts, g, p, xs, rfl, h⟩ := h
    refine ⟨_, (pss_one (ps_ret (pe_callB (call_max2 rfl) (by rfl) T.z_max (by decide +kernel) (pa_cons (pe_int) (pa_cons (pe_op op_sub (pe_callB call_len_seq (by rfl) T.z_len PySem.boot_len (pa_cons (pv 1) pa_nil)) (pe_fld (pv 0) rfl)) pa_nil))))), ?_⟩
    dsimp only [tRet, tRetN, tChain, tOp, tUn, tC, tVar, tSeq, tIfS, tAsg, gName, tTest, tB, tAnd, tOr, tNot, tAndV, tOrV, tNotV, tFld_eq, sFld_eq, sFldAug, L2.rAdd, L2.rSub, tCons, tNil, tLst, tTup, tCall, tMake, tCB, tCKw, tBM, tSl, tPart, tNoPart, tDrop, tNext, tBreak, iList, iRng1, iEnum, gTup, gCons, gNil, tAug, ipI, rI0, rI, rU, cxOf, Cx.nox, Cx.wish, L2.start, List.map, List.length, List.replicate, List.append]
    obtain ⟨S, hp, q⟩ := h
    refine ⟨_, rfl, p, _, rfl, .inl (SqL.of hp), ?_⟩
    refine ⟨_, rfl, r_State_high T S.o ?_⟩
    refine ⟨_, _, rfl, rfl, _, _, rfl, ?_⟩
    have e : (if ((xs.length : Int) - (g.high : Int)) > 0 then ((xs.length : Int) - (g.high : Int)) else 0) = ((xs.length - g.high : Nat) : Int) := by
      split <;> omega
    rw [e]
    exact q
/-- what a call that scrolls promises -/
def doneP (A : Ad) (H : Hp) (s dx lk L F : Addr) (ls ts : List V) (g : Ue07.St) (Q : VK) : Prop := ∀ H' q, But s H H' → StAt A H' s dx lk L F ls ts g → H q = none → H' q = some (.lst (iV (Ue07.pointAnswer g))) → Q (.ref q) H'
def sp_scrolled (A : Ad) : Sp := fun vs H Q _ => ∃ (s dx lk L F : Addr) (ls ts : List V) (g : Ue07.St), vs = [.ref s] ∧ StAt A H s dx lk L F ls ts g ∧ WF0 g ∧ doneP A H s dx lk L F ls ts (Ue07.scrolled g) Q
theorem sc_scrolled : FnScope ["state", "rows", "number", "margin", "top"] ["state"] (defScope s_scrolled) := ⟨rfl, rfl, rfl, by decide +kernel, rfl, by decide +kernel, by decide +kernel⟩
-- slots of scrolled: state 0, rows 1, number 2, margin 3, top 4
theorem ok_scrolled (T : Tx K mg A) : FnOk P w K mg base CX0 6 A.f_scrolled A.d_scrolled ["state"] (sp_scrolled A) := by
  refine T.t_scrolled.F.ok sc_scrolled (fun vs H Q E h => ?_) (fun cdv Ar outer s0 H vs Q E hr h => ?_)
  · obtain ⟨s, dx, lk, L, F, ls, ts, g, rfl, _⟩ := h
    rfl
  · obtain ⟨s, dx, lk, L, F, ls, ts, g, rfl, h⟩ := h
    refine ⟨_, (pss_cons (ps_set (i := 1) sc_scrolled.nd rfl (.inl rfl) (pe_call (ok_seen_rows T) (hr.mono (by decide)) (by rfl) T.t_seen_rows.g T.t_seen_rows.F.kp T.t_seen_rows.b .nil pass0 (pa_cons (pv 0) pa_nil)))
      (pss_cons (ps_set (i := 2) sc_scrolled.nd rfl (.inl rfl) (pe_call (ok_row_number T) (hr.mono (by decide)) (by rfl) T.t_row_number.g T.t_row_number.F.kp T.t_row_number.b .nil pass0 (pa_cons (pv 1) (pa_cons (pe_fld (pv 0) rfl) (pa_cons (pe_fld (pv 0) rfl) pa_nil)))))
      (pss_cons (ps_set (i := 3) sc_scrolled.nd rfl (.inl rfl) (pe_call (ok_real_margin T) (hr.mono (by decide)) (by rfl) T.t_real_margin.g T.t_real_margin.F.kp T.t_real_margin.b .nil pass0 (pa_cons (pv 0) pa_nil)))
      (pss_cons (ps_set (i := 4) sc_scrolled.nd rfl (.inl rfl) (pe_callB (call_min2 rfl) (by rfl) T.z_min (by decide +kernel) (pa_cons (pe_fld (pv 0) rfl) (pa_cons (pe_callB (call_max2 rfl) (by rfl) T.z_max (by decide +kernel) (pa_cons (pe_int) (pa_cons (pe_op op_sub (pv 2) (pv 3)) pa_nil))) pa_nil))))
      (pss_cons (ps_set (i := 4) sc_scrolled.nd rfl (.inl rfl) (pe_callB (call_max2 rfl) (by rfl) T.z_max (by decide +kernel) (pa_cons (pv 4) (pa_cons (pe_op op_sub (pe_op op_add (pe_op op_add (pv 2) (pv 3)) (pe_int)) (pe_fld (pv 0) rfl)) pa_nil))))
      (pss_cons (ps_fld (pv 0) (pe_callB (call_min2 rfl) (by rfl) T.z_min (by decide +kernel) (pa_cons (pv 4) (pa_cons (pe_call (ok_last_top T) (hr.mono (by decide)) (by rfl) T.t_last_top.g T.t_last_top.F.kp T.t_last_top.b .nil pass0 (pa_cons (pv 0) (pa_cons (pv 1) pa_nil))) pa_nil))) rfl)
      (pss_one (ps_ret (pe_call (ok_point_answer T) (hr.mono (by decide)) (by rfl) T.t_point_answer.g T.t_point_answer.F.kp T.t_point_answer.b .nil pass0 (pa_cons (pv 0) (pa_cons (pv 1) pa_nil))))))))))), ?_⟩
    dsimp only [tRet, tRetN, tChain, tOp, tUn, tC, tVar, tSeq, tIfS, tAsg, gName, tTest, tB, tAnd, tOr, tNot, tAndV, tOrV, tNotV, tFld_eq, sFld_eq, sFldAug, L2.rAdd, L2.rSub, tCons, tNil, tLst, tTup, tCall, tMake, tCB, tCKw, tBM, tSl, tPart, tNoPart, tDrop, tNext, tBreak, iList, iRng1, iEnum, gTup, gCons, gNil, tAug, ipI, rI0, rI, rU, cxOf, Cx.nox, Cx.wish, L2.start, List.map, List.length, List.replicate, List.append]
    obtain ⟨S, W, q⟩ := h
    refine ⟨_, rfl, s, dx, lk, L, F, ls, ts, g, rfl, S, W, fun H1 p xs s1 np hp hA => ?_⟩
    have S1 := S.same s1
    have hxl : xs.length = Ue07.rowCount g := hA.len
    refine ⟨_, rfl, _, rfl, r_State_line T S1.o ?_⟩
    refine ⟨_, rfl, r_State_place T S1.o ?_⟩
    refine ⟨p, g.line, g.place, xs, _, rfl, hp, hA, fun H2 s2 => ?_⟩
    rw [W.point.1]
    have S2 := S1.same s2
    refine ⟨_, rfl, s, dx, lk, L, F, ls, ts, g, rfl, S2, W.h1, ?_⟩
    refine ⟨_, rfl, r_State_top T S2.o ?_⟩
    refine ⟨_, rfl, _, rfl, _, _, rfl, rfl, _, _, rfl, _, _, rfl, ?_⟩
    have e1 : (if ((Ue07.pointRow g : Int) - (FV.margin g : Int)) > 0 then ((Ue07.pointRow g : Int) - (FV.margin g : Int)) else 0) = ((Ue07.pointRow g - FV.margin g : Nat) : Int) := by
      split <;> omega
    rw [e1, min2]
    refine ⟨_, rfl, _, rfl, _, rfl, _, _, rfl, rfl, _, _, rfl, rfl, _, rfl, r_State_high T S2.o ?_⟩
    refine ⟨_, _, rfl, rfl, _, _, rfl, ?_⟩
    have e2 : (if ((Ue07.pointRow g : Int) + (FV.margin g : Int) + 1 - (g.high : Int)) > ((min g.top (Ue07.pointRow g - FV.margin g) : Nat) : Int) then ((Ue07.pointRow g : Int) + (FV.margin g : Int) + 1 - (g.high : Int)) else ((min g.top (Ue07.pointRow g - FV.margin g) : Nat) : Int)) = ((max (Ue07.pointRow g + FV.margin g + 1 - g.high) (min g.top (Ue07.pointRow g - FV.margin g)) : Nat) : Int) := by
      split <;> omega
    rw [e2]
    refine ⟨_, rfl, _, rfl, _, rfl, s, dx, lk, L, F, ls, ts, g, p, xs, rfl, S2, s2 _ _ hp, ?_⟩
    rw [hxl]
    refine ⟨_, _, rfl, ?_⟩
    rw [min2]
    refine ⟨_, rfl, st_top T S2 fun H3 b3 S3 => ?_⟩
    have W3 := W.scrolled
    have S3' : StAt A H3 s dx lk L F ls ts (Ue07.scrolled g) := S3
    have b12 : Same H H2 := s1.trans s2
    refine ⟨_, rfl, _, rfl, s, dx, lk, L, F, ls, ts, Ue07.scrolled g, p, xs, rfl, S3', W3.toWF0, W3.tr, S2.but_lst b3 (s2 _ _ hp), S2.but_rows b3 (rws_same s2 hA), fun H4 z s4 nz hz => ?_⟩
    refine q H4 z (((same_but b12 s).trans b3).trans (same_but s4 s)) (S3'.same s4) ?_ hz
    exact ((same_but b12 s).trans b3).free (by rw [S3'.o]; intro z; cases z) nz
def sp_unwished (A : Ad) : Sp := fun vs H Q _ => ∃ (s dx lk L F : Addr) (ls ts : List V) (g : Ue07.St), vs = [.ref s] ∧ StAt A H s dx lk L F ls ts g ∧ WF0 { g with wish := none } ∧ doneP A H s dx lk L F ls ts (Ue07.scrolled { g with wish := none }) Q
theorem sc_unwished : FnScope ["state"] ["state"] (defScope s_unwished) := ⟨rfl, rfl, rfl, by decide +kernel, rfl, by decide +kernel, by decide +kernel⟩
-- slots of unwished: state 0
theorem ok_unwished (T : Tx K mg A) : FnOk P w K mg base CX0 7 A.f_unwished A.d_unwished ["state"] (sp_unwished A) := by
  refine T.t_unwished.F.ok sc_unwished (fun vs H Q E h => ?_) (fun cdv Ar outer s0 H vs Q E hr h => ?_)
  · obtain ⟨s, dx, lk, L, F, ls, ts, g, rfl, _⟩ := h
    rfl
  · obtain ⟨s, dx, lk, L, F, ls, ts, g, rfl, h⟩ := h
    refine ⟨_, (pss_cons (ps_fld (pv 0) (pe_non) rfl)
      (pss_one (ps_ret (pe_call (ok_scrolled T) (hr.mono (by decide)) (by rfl) T.t_scrolled.g T.t_scrolled.F.kp T.t_scrolled.b .nil pass0 (pa_cons (pv 0) pa_nil))))), ?_⟩
    dsimp only [tRet, tRetN, tChain, tOp, tUn, tC, tVar, tSeq, tIfS, tAsg, gName, tTest, tB, tAnd, tOr, tNot, tAndV, tOrV, tNotV, tFld_eq, sFld_eq, sFldAug, L2.rAdd, L2.rSub, tCons, tNil, tLst, tTup, tCall, tMake, tCB, tCKw, tBM, tSl, tPart, tNoPart, tDrop, tNext, tBreak, iList, iRng1, iEnum, gTup, gCons, gNil, tAug, ipI, rI0, rI, rU, cxOf, Cx.nox, Cx.wish, L2.start, List.map, List.length, List.replicate, List.append]
    obtain ⟨S, W, q⟩ := h
    refine ⟨_, rfl, st_wished T S none fun H1 b1 S1 => ?_⟩
    refine ⟨_, rfl, s, dx, lk, L, F, ls, ts, _, rfl, S1, W, fun H2 z b2 S2 nz hz => ?_⟩
    exact q H2 z (b1.trans b2) S2 (b1.free (by rw [S1.o]; intro z; cases z) nz) hz
end
end FV
namespace L2
open PySem PySem.Spec PyProof.Rows
/-- sorted(xs, reverse=True), xs a list of pairs of ints (k says which) -/
def rSortedPR (K : PySem.W.Frag) : List V → List V → Hp → VK → Prop := fun vs zs H Q => ∃ (a : Addr) (xs : List V) (k : V → Int × Int), vs = [V.ref a] ∧ zs = [.bl true] ∧ SqL K H a xs ∧ (∀ x ∈ xs, ∃ t, x = V.ref t ∧ H t = some (.tup [.int (k x).1, .int (k x).2])) ∧
  ∀ ys p, SrtO.Srtd (ltP k) ys → ys.Perm xs → H p = none → Q (.ref p) (upd H p (.lst ys.reverse))
theorem cr_sortedPR {X : Cx} : CallRK X (.builtin "sorted") [Str.ofString "reverse"] (rSortedPR X.K) := by
  intro pins st σ H vs kws us ks Q I hvs hks ⟨l, xs, key, e1, e2, hl, hpair, q⟩
  subst e1 e2
  obtain rfl := Vals.ref1 hvs
  obtain ⟨kv, rfl, ekv⟩ := vals1 hks
  obtain rfl : kv = .bool true := ekv
  obtain ⟨items, hv, hpl, hsz⟩ := I.list hl
  have hrefs := refs_back hv fun x hx => let ⟨t, e, _⟩ := hpair x hx; ⟨t, e⟩
  have isp : ∀ v ∈ items, Srt.IsPair st.heap v (key (backV v)).1 (key (backV v)).2 := by
    intro v hv'
    obtain ⟨t, rfl⟩ := hrefs.2 v hv'
    have hin : backV (.ref t) ∈ xs := hrefs.1 ▸ List.mem_map_of_mem hv'
    obtain ⟨t', et, ht⟩ := hpair _ hin
    cases et
    obtain ⟨_, two, h2, ob, hob, hcl, n, hdt⟩ := I.hok _ _ ht
    obtain ⟨p1, p2, rfl, ⟨k1, rfl⟩, ⟨k2, rfl⟩⟩ := vals2 h2
    exact ⟨t, ob, k1, k2, n, rfl, hob, hcl, hdt⟩
  have hlen : items.length ≤ sizeLine := hv.length ▸ hsz
  refine SrtR.sorted_ordK (b := true) (fun _ => rfl) (PyProof.Rows.args_sorted_rev _ _) (fun _ => PyProof.Rows.args_list_sort_rev _ _) (SrtO.swo_lex fun u => key (backV u)) hpl.isList hlen ?_ ?_
  · intro two G at' hat keep
    refine SrtO.pairs_sortableO (s := { st with heap := G }) (Nat.lt_of_lt_of_le Nat.zero_lt_two two) (fun v hm => (isp v hm).keeps fun b o e _ => (keep b o e).2) ?_
    intro ob hob
    cases hob.symm.trans hat
    exact fun c => nomatch (Value.type.inj c : ("list" : String) = "tuple")
  · intro out hsrt hstb
    have pm : out.Perm items := hstb.perm.trans (List.reverse_perm _)
    have pv' : (out.map backV).Perm xs := hrefs.1 ▸ pm.map backV
    have allr : ∀ u ∈ out.reverse, ∃ t, u = Value.ref t := fun u hu => hrefs.2 u (pm.mem_iff.mp (List.mem_reverse.mp hu))
    obtain ⟨ep, hat⟩ := PyProof.Rows.sortedAll_at st.heap items out.toArray.reverse
    have small : ((out.map backV).reverse).length ≤ sizeLine := by rw [List.length_reverse, pv'.length_eq]; exact hsz
    have relv : Vals ((out.map backV).reverse) out.reverse := by rw [← List.map_reverse]; exact vals_back allr
    have arr : out.reverse.toArray = out.toArray.reverse := by rw [List.reverse_toArray]
    refine ⟨.ref _, upd H (st.heap.objs.size + 1) (.lst (out.map backV).reverse), I.laid (t' := st.toks) (fun _ _ => PyProof.Rows.sortedAll_old) (Nat.le_succ _) ⟨small, out.reverse, ep, relv, ?_⟩, rfl, q _ _ (SrtO.srtd_map hsrt) pv' (I.hok.fresh (Nat.le_succ _))⟩
    rw [arr]
    exact hat
end L2
namespace FV
open PySem PySem.Spec PyProof.Rows L2
/-- a fold by its tuple's address -/
def kH (H : Hp) (v : V) : Int × Int := match v with
  | .ref t => match H t with
    | some (.tup [.int i, .int j]) => (i, j)
    | _ => (0, 0)
  | _ => (0, 0)
theorem kH_of {H : Hp} {v : V} {f : Nat × Nat} (h : FdV H v f) : kH H v = ((f.1 : Int), (f.2 : Int)) := by
  obtain ⟨a, rfl, ha⟩ := h
  unfold kH
  simp only
  rw [show H a = some (.tup [.int f.1, .int f.2]) from ha]
def fH (H : Hp) (v : V) : Nat × Nat := ((kH H v).1.toNat, (kH H v).2.toNat)
theorem fH_of {H : Hp} {v : V} {f : Nat × Nat} (h : FdV H v f) : fH H v = f := by
  unfold fH
  rw [kH_of h]
  rfl
theorem map_fH {H : Hp} : ∀ {ts : List V} {fs : List (Nat × Nat)}, All2 (FdV H) ts fs → ts.map (fH H) = fs
  | _, _, .nil => rfl
  | _, _, .cons h r => by rw [List.map_cons, fH_of h, map_fH r]
theorem all2_fH {H : Hp} : ∀ {ys : List V}, (∀ y ∈ ys, ∃ f, FdV H y f) → All2 (FdV H) ys (ys.map (fH H))
  | [], _ => .nil
  | y :: ys, h => by
    obtain ⟨f, hf⟩ := h y (List.mem_cons_self ..)
    refine .cons ?_ (all2_fH fun z hz => h z (List.mem_cons_of_mem _ hz))
    rw [fH_of hf]
    exact hf
theorem vOpt_none {o : Option Nat} : vOpt o = .non ↔ o = none := by
  cases o with
  | none => exact ⟨fun _ => rfl, fun _ => rfl⟩
  | some n => exact ⟨fun h => (by cases h), fun h => (by cases h)⟩
section
variable {P : Program} {w : World} {K : PySem.W.Frag} {mg : Str → Option Value} {base : Heap} {A : Ad}
variable {H H' : Hp} {s dx lk L F : Addr} {ls ts : List V} {g : Ue07.St}
def sp_put_into (A : Ad) : Sp := fun vs H Q _ => ∃ (s dx lk L F : Addr) (ls ts : List V) (g : Ue07.St) (p : Addr) (xs : List V) (i : Nat), vs = [.ref s, .ref p, .int i] ∧ StAt A H s dx lk L F ls ts g ∧ WF0 g ∧ H p = some (.lst xs) ∧ All2 (RwV A H) xs (Ue07.allRows g) ∧ i < (Ue07.allRows g).length ∧
  ∀ H', But s H H' → StAt A H' s dx lk L F ls ts (putAt g i) → Q .non H'
theorem sc_put_into : FnScope ["state", "rows", "number", "own"] ["state", "rows", "number"] (defScope s_put_into) := ⟨rfl, rfl, rfl, by decide +kernel, rfl, by decide +kernel, by decide +kernel⟩
-- slots of put_into: state 0, rows 1, number 2, own 3
theorem ok_put_into (T : Tx K mg A) : FnOk P w K mg base CX0 4 A.f_put_into A.d_put_into ["state", "rows", "number"] (sp_put_into A) := by
  refine T.t_put_into.F.ok sc_put_into (fun vs H Q E h => ?_) (fun cdv Ar outer s0 H vs Q E hr h => ?_)
  · obtain ⟨s, dx, lk, L, F, ls, ts, g, p, xs, i, rfl, _⟩ := h
    rfl
  · obtain ⟨s, dx, lk, L, F, ls, ts, g, p, xs, i, rfl, h⟩ := h
    refine ⟨_, (pss_cons (ps_if (pt_cmpR op_isN (pe_fld (pv 0) rfl) (pe_non) (nomark _)) (pss_cons (ps_set (i := 3) sc_put_into.nd rfl (.inl rfl) (pe_ix ix_list (pv 1) (pe_call (ok_row_number T) (hr.mono (by decide)) (by rfl) T.t_row_number.g T.t_row_number.F.kp T.t_row_number.b .nil pass0 (pa_cons (pv 1) (pa_cons (pe_fld (pv 0) rfl) (pa_cons (pe_fld (pv 0) rfl) pa_nil)))) (fun _ _ => rfl)))
      (pss_one (ps_fld (pv 0) (pe_call (ok_place_column T) (hr.mono (by decide)) (by rfl) T.t_place_column.g T.t_place_column.F.kp T.t_place_column.b .nil pass0 (pa_cons (pe_fld (pv 0) rfl) (pa_cons (pe_ix ix_list (pe_fld (pv 0) rfl) (pe_fld (pv 0) rfl) (fun _ _ => rfl)) (pa_cons (pv 3) (pa_cons (pe_fld (pv 0) rfl) pa_nil))))) rfl))) pss_nil)
      (pss_cons (ps_fld (pv 0) (pe_call (ok_row_place T) (hr.mono (by decide)) (by rfl) T.t_row_place.g T.t_row_place.F.kp T.t_row_place.b .nil pass0 (pa_cons (pv 0) (pa_cons (pe_ix ix_list (pv 1) (pv 2) (fun _ _ => rfl)) (pa_cons (pe_fld (pv 0) rfl) pa_nil)))) rfl)
      (pss_one (ps_fld (pv 0) (pe_fld (pe_ix ix_list (pv 1) (pv 2) (fun _ _ => rfl)) rfl) rfl)))), ?_⟩
    dsimp only [tRet, tRetN, tChain, tOp, tUn, tC, tVar, tSeq, tIfS, tAsg, gName, tTest, tB, tAnd, tOr, tNot, tAndV, tOrV, tNotV, tFld_eq, sFld_eq, sFldAug, L2.rAdd, L2.rSub, tCons, tNil, tLst, tTup, tCall, tMake, tCB, tCKw, tBM, tSl, tPart, tNoPart, tDrop, tNext, tBreak, iList, iRng1, iEnum, gTup, gCons, gNil, tAug, ipI, rI0, rI, rU, cxOf, Cx.nox, Cx.wish, L2.start, List.map, List.length, List.replicate, List.append]
    obtain ⟨S, W, hp, hA, hi, q⟩ := h
    have hgi := List.getElem?_eq_getElem hi
    have hmem := mem_tag (rowsOf g) (l := Ue07.seen g.folds g.lines.length) (x := (Ue07.allRows g)[i]) (List.getElem_mem hi)
    have hml := (mem_seen.mp hmem.1).1
    rw [putAt_some hgi] at q
    generalize (Ue07.allRows g)[i] = x at hgi hmem hml q
    have rest : ∀ (want : Nat) (H1 : Hp), want = g.wish.getD (Ue07.pointCol g) → But s H H1 → StAt A H1 s dx lk L F ls ts { g with wish := some want } → H1 p = some (.lst xs) → All2 (RwV A H1) xs (Ue07.allRows g) →
        ∃ r, xs[i]? = some (.ref r) ∧ RwAt A H1 r x := fun want H1 e b1 S1 hp1 hA1 => by
      obtain ⟨y, hy, r, rfl, hr2⟩ := hA1.get' hgi
      exact ⟨r, hy, hr2⟩
    refine ⟨_, rfl, r_State_wished T S.o ?_⟩
    refine ⟨rfl, _, rfl, ifd (fun c => ?_) (fun c => ?_)⟩
    · have hw : g.wish = none := vOpt_none.mp c
      have ew : g.wish.getD (Ue07.pointCol g) = Ue07.pointCol g := by rw [hw]; rfl
      obtain ⟨er, eg⟩ := W.point
      refine ⟨_, rfl, _, rfl, _, rfl, r_State_line T S.o ?_⟩
      refine ⟨_, rfl, r_State_place T S.o ?_⟩
      refine ⟨p, g.line, g.place, xs, _, rfl, hp, hA, fun H1 s1 => ?_⟩
      rw [er]
      have S1 := S.same s1
      have hA1 := rws_same s1 hA
      obtain ⟨y, hy, r, rfl, hr2⟩ := hA1.get' eg
      refine ⟨p, _, _, _, rfl, rfl, SqL.of (s1 _ _ hp), atI_nat hy, ?_⟩
      obtain ⟨a, ha1, ha2⟩ := S1.line_at W.pl
      refine ⟨_, rfl, r_State_look T S1.o ?_⟩
      refine ⟨_, rfl, r_State_lines T S1.o ?_⟩
      refine ⟨_, rfl, r_State_line T S1.o ?_⟩
      refine ⟨L, _, _, _, rfl, rfl, SqL.of S1.l, atI_nat ha1, ?_⟩
      refine ⟨_, rfl, _, rfl, r_State_place T S1.o ?_⟩
      refine ⟨lk, a, r, g.look, Ue07.lineAt g g.line, _, g.place, rfl, S1.k, W.tabOk, W.wide, SqL.of ha2, hr2, fun H2 s2 => ?_⟩
      have S2 := S1.same s2
      refine ⟨_, rfl, st_wished T S2 (some (Ue07.pointCol g)) fun H3 b3 S3 => ?_⟩
      have hp3 : H3 p = some (.lst xs) := S2.but_lst b3 (s2 _ _ (s1 _ _ hp))
      have hA3 := S2.but_rows b3 (rws_same s2 hA1)
      have b03 : But s H H3 := (same_but (s1.trans s2) s).trans b3
      obtain ⟨r3, hy3, hr3⟩ := rest _ H3 ew.symm b03 S3 hp3 hA3
      refine ⟨_, rfl, _, rfl, _, rfl, p, _, _, _, rfl, rfl, SqL.of hp3, atI_nat hy3, ?_⟩
      refine ⟨_, rfl, r_State_wished T S3.o ?_⟩
      refine ⟨s, dx, lk, L, F, ls, ts, _, r3, x, Ue07.pointCol g, rfl, S3, W.wish _, hr3, hml, hmem.2, ?_⟩
      refine ⟨_, rfl, st_place T S3 fun H4 b4 S4 => ?_⟩
      obtain ⟨d3, hr3⟩ := hr3
      have hr4 := b4 _ _ hr3 (ne_of hr3 S3.o rw_ne_st)
      refine ⟨_, rfl, _, rfl, p, _, _, _, rfl, rfl, SqL.of (S3.but_lst b4 hp3), atI_nat hy3, ?_⟩
      refine r_Row_line T hr4 ?_
      refine ⟨_, rfl, st_line T S4 fun H5 b5 S5 => ?_⟩
      refine q H5 ((b03.trans b4).trans b5) ?_
      rw [ew]
      exact S5
    · obtain ⟨want, hw⟩ : ∃ n, g.wish = some n := by
        cases hg : g.wish with
        | none => exact absurd (vOpt_none.mpr hg) c
        | some n => exact ⟨n, rfl⟩
      have ew : g.wish.getD (Ue07.pointCol g) = want := by rw [hw]; rfl
      have eg : { g with wish := some want } = g := by rw [← hw]
      obtain ⟨r3, hy3, hr3⟩ := rest _ H ew.symm (But.refl _ _) (by rw [eg]; exact S) hp hA
      refine ⟨_, rfl, _, rfl, _, rfl, p, _, _, _, rfl, rfl, SqL.of hp, atI_nat hy3, ?_⟩
      refine ⟨_, rfl, r_State_wished T S.o ?_⟩
      rw [hw]
      refine ⟨s, dx, lk, L, F, ls, ts, _, r3, x, want, rfl, S, W, hr3, hml, hmem.2, ?_⟩
      refine ⟨_, rfl, st_place T S fun H4 b4 S4 => ?_⟩
      obtain ⟨d3, hr3⟩ := hr3
      have hr4 := b4 _ _ hr3 (ne_of hr3 S.o rw_ne_st)
      refine ⟨_, rfl, _, rfl, p, _, _, _, rfl, rfl, SqL.of (S.but_lst b4 hp), atI_nat hy3, ?_⟩
      refine r_Row_line T hr4 ?_
      refine ⟨_, rfl, st_line T S4 fun H5 b5 S5 => ?_⟩
      refine q H5 (b4.trans b5) ?_
      rw [ew, ← hw]
      exact S5
def sp_bring_point_out (A : Ad) : Sp := fun vs H Q _ => ∃ (s dx lk L F : Addr) (ls ts : List V) (g : Ue07.St), vs = [.ref s] ∧ StAt A H s dx lk L F ls ts g ∧ g.line < g.lines.length ∧
  ∀ H' ys, ys.Perm g.folds → ys.Pairwise (fun a b => b.1 ≤ a.1) → But s H H' → StAt A H' s dx lk L F ls ts { g with line := (bpo g.lines ys (g.line, g.place)).1, place := (bpo g.lines ys (g.line, g.place)).2 } → Q .non H'
theorem sc_bring_point_out : FnScope ["state", "fold"] ["state"] (defScope s_bring_point_out) := ⟨rfl, rfl, rfl, by decide +kernel, rfl, by decide +kernel, by decide +kernel⟩
-- slots of bring_point_out: state 0, fold 1
theorem ok_bring_point_out (T : Tx K mg A) : FnOk P w K mg base CX0 2 A.f_bring_point_out A.d_bring_point_out ["state"] (sp_bring_point_out A) := by
  refine T.t_bring_point_out.F.ok sc_bring_point_out (fun vs H Q E h => ?_) (fun cdv Ar outer s0 H vs Q E hr h => ?_)
  · obtain ⟨s, dx, lk, L, F, ls, ts, g, rfl, _⟩ := h
    rfl
  · obtain ⟨s, dx, lk, L, F, ls, ts, g, rfl, h⟩ := h
    refine ⟨_, (pss_one (ps_for PassesOwn.never rfl (pi_list (pe_callBK cr_sortedPR (by rfl) T.z_sorted (by decide +kernel) (pa_cons (pe_fld (pv 0) rfl) pa_nil) (pk_cons pe_bl pk_nil))) (pg_name (i := 1) sc_bring_point_out.nd rfl (.inl rfl)) (pss_one (ps_if (pt_val (pe_call (ok_hides T) (hr.mono (by decide)) (by rfl) T.t_hides.g T.t_hides.F.kp T.t_hides.b .nil pass0 (pa_cons (pv 1) (pa_cons (pe_fld (pv 0) rfl) pa_nil)))) (pss_cons (ps_fld (pv 0) (pe_ix ix_tup (pv 1) (pe_int) (fun _ _ => rfl)) rfl)
      (pss_one (ps_fld (pv 0) (pe_callB (call_min2 rfl) (by rfl) T.z_min (by decide +kernel) (pa_cons (pe_fld (pv 0) rfl) (pa_cons (pe_callB call_len_seq (by rfl) T.z_len PySem.boot_len (pa_cons (pe_ix ix_list (pe_fld (pv 0) rfl) (pe_fld (pv 0) rfl) (fun _ _ => rfl)) pa_nil)) pa_nil))) rfl))) pss_nil)))), ?_⟩
    dsimp only [tRet, tRetN, tChain, tOp, tUn, tC, tVar, tSeq, tIfS, tAsg, gName, tTest, tB, tAnd, tOr, tNot, tAndV, tOrV, tNotV, tFld_eq, sFld_eq, sFldAug, L2.rAdd, L2.rSub, tCons, tNil, tLst, tTup, tCall, tMake, tCB, tCKw, tBM, tSl, tPart, tNoPart, tDrop, tNext, tBreak, iList, iRng1, iEnum, gTup, gCons, gNil, tAug, ipI, rI0, rI, rU, cxOf, Cx.nox, Cx.wish, L2.start, List.map, List.length, List.replicate, List.append]
    obtain ⟨S, hll, q⟩ := h
    refine w_for ?_
    refine ⟨_, rfl, r_State_folds T S.o ?_⟩
    refine ⟨F, ts, kH H, rfl, rfl, SqL.of S.f, fun x hx => ?_, fun zs p hs hpm np => ?_⟩
    · obtain ⟨f, _, hf⟩ := S.fA.left x hx
      have := kH_of hf
      obtain ⟨t, rfl, ht⟩ := hf
      exact ⟨t, rfl, by rw [this]; exact ht⟩
    have hys : ∀ y ∈ zs.reverse, ∃ f, FdV H y f := fun y hy => by
      obtain ⟨f, _, hf⟩ := S.fA.left y (hpm.mem_iff.mp (List.mem_reverse.mp hy))
      exact ⟨f, hf⟩
    have hA := all2_fH hys
    have hperm : (zs.reverse.map (fH H)).Perm g.folds := by
      rw [← map_fH S.fA]
      exact ((List.reverse_perm _).trans hpm).map _
    have hsort : (zs.reverse.map (fH H)).Pairwise (fun a b => b.1 ≤ a.1) := by
      rw [List.pairwise_map, List.pairwise_reverse]
      refine List.Pairwise.imp_of_mem ?_ hs
      intro a b ha hb h
      obtain ⟨fa, hfa⟩ := hys a (List.mem_reverse.mpr ha)
      obtain ⟨fb, hfb⟩ := hys b (List.mem_reverse.mpr hb)
      have h' := SrtO.lexB_no.mp h
      rw [kH_of hfa, kH_of hfb] at h'
      rw [fH_of hfa, fH_of hfb]
      simp only at h'
      omega
    have q' := fun H' => q H' _ hperm hsort
    generalize zs.reverse.map (fH H) = fs at hA hperm hsort q'
    generalize zs.reverse = ys at hA
    have s1 : Same H (upd H p (.lst ys)) := same_upd np
    refine ⟨p, rfl, ⟨_, SqL.of upd_same⟩, ?_⟩
    refine forG_list (xs := ys) (fun i σ H' => (∃ v, σ = [some (.ref s), v]) ∧ But s H H' ∧ H' p = some (.lst ys) ∧ StAt A H' s dx lk L F ls ts { g with line := (bpo g.lines (fs.take i) (g.line, g.place)).1, place := (bpo g.lines (fs.take i) (g.line, g.place)).2 })
      ⟨⟨_, rfl⟩, same_but s1 s, upd_same, S.same s1⟩ (fun i σ H' _ ⟨_, _, h, _⟩ => SqL.of h) ?_ ?_
    · rintro i x σ H' hx ⟨⟨v, rfl⟩, b1, hp, S1⟩
      obtain ⟨f, hf, t, rfl, ht⟩ := hA.get hx
      have ht1 : FdAt H' t f := b1 _ _ ht (ne_of ht S.o (by intro z; cases z))
      have eb : bpo g.lines (fs.take (i + 1)) (g.line, g.place) = bpo1 g.lines (bpo g.lines (fs.take i) (g.line, g.place)) f := by
        unfold bpo
        rw [take_snoc hf, List.foldl_append]
        rfl
      have hle := (bpo_le g.lines (fs.take i) (g.line, g.place)).1
      rw [eb]
      generalize bpo g.lines (fs.take i) (g.line, g.place) = y at S1 hle
      refine ⟨_, rfl, _, rfl, r_State_line T S1.o ?_⟩
      refine ⟨t, f, y.1, rfl, ht1, _, rfl, ifb (fun c => ?_) (fun c => ?_)⟩
      · have hlt := (hides_iff.mp c).1
        have hle' : y.1 ≤ g.line := hle
        refine ⟨_, rfl, fd0 ht1 ?_⟩
        refine ⟨_, rfl, st_line T S1 fun H2 b2 S2 => ?_⟩
        refine ⟨_, rfl, r_State_place T S2.o ?_⟩
        refine ⟨_, rfl, r_State_lines T S2.o ?_⟩
        refine ⟨_, rfl, r_State_line T S2.o ?_⟩
        obtain ⟨a, ha1, ha2⟩ := S2.line_at (n := f.1) (by show f.1 < g.lines.length; omega)
        refine ⟨L, _, _, _, rfl, rfl, SqL.of S2.l, atI_nat ha1, ?_⟩
        refine ⟨a, _, rfl, .inl (SqL.of ha2), ?_⟩
        rw [nV_len]
        refine ⟨_, _, rfl, ?_⟩
        rw [min2]
        refine ⟨_, rfl, st_place T S2 fun H3 b3 S3 => ?_⟩
        refine ⟨⟨_, rfl⟩, (b1.trans b2).trans b3, S2.but_lst b3 (S1.but_lst b2 hp), ?_⟩
        unfold bpo1
        rw [if_pos c]
        exact S3
      · refine ⟨⟨_, rfl⟩, b1, hp, ?_⟩
        unfold bpo1
        rw [c, if_neg (by decide)]
        exact S1
    · rintro σ H' ⟨⟨v, rfl⟩, b1, hp, S1⟩
      rw [hA.len, List.take_length] at S1
      exact q' H' b1 S1
end
end FV
namespace FV
open PySem PySem.Spec PyProof.Rows L2
/-! ### what every call promises -/
/-- an address that the state has no part in -/
structure Av (av lk L F : Addr) (ls ts : List V) : Prop where
  k : lk ≠ av
  l : L ≠ av
  f : F ≠ av
  ls : V.ref av ∉ ls
  ts : V.ref av ∉ ts
def Fin (A : Ad) (H : Hp) (s dx F av : Addr) (g : Ue07.St) (ans : List Int) (Q : VK) : Prop := ∀ (H' : Hp) (q lk' L' F' : Addr) (ls' ts' : List V), StAt A H' s dx lk' L' F' ls' ts' g → WF g → H q = none → H' q = some (.lst (iV ans)) →
  (∀ b o, H b = some o → b ≠ s → b ≠ F → H' b = some o) → Av av lk' L' F' ls' ts' → Q (.ref q) H'
def spCall (A : Ad) (i : Nat) : Sp := fun vs H Q _ => ∃ (s dx lk L F : Addr) (ls ts : List V) (g : Ue07.St) (t av : Addr) (ns : List Nat) (x : Ue07.Call), vs = [.ref s, .ref t] ∧ StAt A H s dx lk L F ls ts g ∧ WF g ∧ H t = some (.lst (nV ns)) ∧ ns.length ≤ 4000 ∧
  Ue07Neutral.callIn (i :: ns) = some x ∧ H av ≠ none ∧ Av av lk L F ls ts ∧ Fin A H s dx F av (Ue07.step g x).1 (Ue07.step g x).2 Q
theorem ne_av {H : Hp} {av p : Addr} (h : H av ≠ none) (np : H p = none) : p ≠ av := fun e => h (by rw [← e]; exact np)
section
variable {P : Program} {w : World} {K : PySem.W.Frag} {mg : Str → Option Value} {base : Heap} {A : Ad}
variable {H H' : Hp} {s dx lk L F av : Addr} {ls ts : List V} {g g' : Ue07.St} {Q : VK} {ans : List Int}
theorem Fin.ret (k : Fin A H s dx F av g ans Q) (S : StAt A H s dx lk L F ls ts g) (W : WF g) (a : Av av lk L F ls ts) {H' : Hp} {p : Addr} (s1 : Same H H') (np : H p = none) (hp : H' p = some (.lst (iV ans))) : Q (.ref p) H' :=
  k H' p lk L F ls ts (S.same s1) W np hp (fun b o h _ _ => s1 b o h) a
theorem Fin.ref {n : Int} (k : Fin A H s dx F av g [-n] Q) (S : StAt A H s dx lk L F ls ts g) (W : WF g) (a : Av av lk L F ls ts) {p : Addr} (np : H p = none) : Q (.ref p) (upd H p (.lst [.int (-n)])) :=
  k.ret S W a (same_upd np) np upd_same
theorem Fin.done (k : Fin A H s dx F av g' (Ue07.pointAnswer g') Q) (W : WF g') {F' : Addr} (a : Av av lk L F' ls ts) {H1 : Hp} (b : ∀ b o, H b = some o → b ≠ s → b ≠ F → H1 b = some o) (fr : ∀ q, H1 q = none → H q = none) : doneP A H1 s dx lk L F' ls ts g' Q :=
  fun H' q b' S' nq hq => k H' q lk L F' ls ts S' W (fr q nq) hq (fun x o h n n' => b' x o (b x o h n n') n) a
theorem Fin.but (k : Fin A H s dx F av g' (Ue07.pointAnswer g') Q) (W : WF g') {F' : Addr} (a : Av av lk L F' ls ts) {H1 : Hp} (b : But s H H1) {o : HO} (hs : H1 s = some o) : doneP A H1 s dx lk L F' ls ts g' Q :=
  k.done W a (fun x o h n _ => b x o h n) (fun q nq => b.free (by rw [hs]; intro z; cases z) nq)
theorem td {t : Addr} {ns : List Nat} {i v : Nat} (ht : H t = some (.lst (nV ns))) (h : ns[i]? = some v) (q : Q (.int v) H) : rIxL K (.ref t) (.int (i : Nat)) H Q := ⟨t, _, _, _, rfl, rfl, SqL.of ht, atI_nat (nV_get h), q⟩
theorem td0 {t : Addr} {a : Nat} {r : List Nat} (ht : H t = some (.lst (nV (a :: r)))) (q : Q (.int a) H) : rIxL K (.ref t) (.int 0) H Q := td (i := 0) ht rfl q
theorem td1 {t : Addr} {a b : Nat} {r : List Nat} (ht : H t = some (.lst (nV (a :: b :: r)))) (q : Q (.int b) H) : rIxL K (.ref t) (.int 1) H Q := td (i := 1) ht rfl q
theorem td2 {t : Addr} {a b c : Nat} {r : List Nat} (ht : H t = some (.lst (nV (a :: b :: c :: r)))) (q : Q (.int c) H) : rIxL K (.ref t) (.int 2) H Q := td (i := 2) ht rfl q
theorem td3 {t : Addr} {a b c d : Nat} {r : List Nat} (ht : H t = some (.lst (nV (a :: b :: c :: d :: r)))) (q : Q (.int d) H) : rIxL K (.ref t) (.int 3) H Q := td (i := 3) ht rfl q
theorem td4 {t : Addr} {a b c d e : Nat} {r : List Nat} (ht : H t = some (.lst (nV (a :: b :: c :: d :: e :: r)))) (q : Q (.int e) H) : rIxL K (.ref t) (.int 4) H Q := td (i := 4) ht rfl q
/-! how a call is told -/
open Ue07Neutral (callIn) in
section
variable {ns : List Nat} {x : Ue07.Call}
theorem bit_some {n : Nat} {b : Bool} (h : Ue07Neutral.bit n = some b) : (n : Int) = b01 b := by
  unfold Ue07Neutral.bit at h
  split at h
  · cases h; subst n; rfl
  · split at h
    · cases h; subst n; rfl
    · cases h
theorem in0 (h : callIn (0 :: ns) = some x) : ∃ w t m a b k, ns = [w, t, m, a, b] ∧ x = .look k ∧ k.wide = w ∧ k.tab = t ∧ k.more = m ∧ (a : Int) = b01 k.hang ∧ (b : Int) = b01 k.words := by
  rcases ns with _ | ⟨w, _ | ⟨t, _ | ⟨m, _ | ⟨a, _ | ⟨b, _ | ⟨c, r⟩⟩⟩⟩⟩⟩ <;> simp [callIn] at h
  cases e1 : Ue07Neutral.bit a with
  | none => simp [e1] at h
  | some ha =>
    cases e2 : Ue07Neutral.bit b with
    | none => simp [e1, e2] at h
    | some hb =>
      simp only [e1, e2, Option.bind_some, Option.map_some, Option.some.injEq] at h
      exact ⟨w, t, m, a, b, _, rfl, h.symm, rfl, rfl, rfl, bit_some e1, bit_some e2⟩
theorem in1 (h : callIn (1 :: ns) = some x) : ∃ a b, ns = [a, b] ∧ x = .window a b := by
  rcases ns with _ | ⟨a, _ | ⟨b, _ | ⟨c, r⟩⟩⟩ <;> simp [callIn] at h
  exact ⟨a, b, rfl, h.symm⟩
theorem in2 (h : callIn (2 :: ns) = some x) : ∃ l, Ue07Neutral.linesIn (ns.length + 1) ns = some l ∧ x = .text l := by
  simp [callIn] at h
  obtain ⟨l, e, r⟩ := h
  exact ⟨l, e, r.symm⟩
theorem in3 (h : callIn (3 :: ns) = some x) : ∃ a b r l, ns = a :: b :: r ∧ Ue07Neutral.linesIn (r.length + 1) r = some l ∧ x = .edit a b l := by
  rcases ns with _ | ⟨a, _ | ⟨b, r⟩⟩ <;> simp [callIn] at h
  obtain ⟨l, e, q⟩ := h
  exact ⟨a, b, r, l, rfl, e, q.symm⟩
theorem in4 (h : callIn (4 :: ns) = some x) : ∃ a b, ns = [a, b] ∧ x = .fold a b := by
  rcases ns with _ | ⟨a, _ | ⟨b, _ | ⟨c, r⟩⟩⟩ <;> simp [callIn] at h
  exact ⟨a, b, rfl, h.symm⟩
theorem in5 (h : callIn (5 :: ns) = some x) : ∃ a, ns = [a] ∧ x = .unfold_ a := by
  rcases ns with _ | ⟨a, _ | ⟨c, r⟩⟩ <;> simp [callIn] at h
  exact ⟨a, rfl, h.symm⟩
theorem in6 (h : callIn (6 :: ns) = some x) : ∃ a b, ns = [a, b] ∧ x = .goto a b := by
  rcases ns with _ | ⟨a, _ | ⟨b, _ | ⟨c, r⟩⟩⟩ <;> simp [callIn] at h
  exact ⟨a, b, rfl, h.symm⟩
theorem in7 (h : callIn (7 :: ns) = some x) : ∃ a, ns = [a] ∧ x = .up a := by
  rcases ns with _ | ⟨a, _ | ⟨c, r⟩⟩ <;> simp [callIn] at h
  exact ⟨a, rfl, h.symm⟩
theorem in8 (h : callIn (8 :: ns) = some x) : ∃ a, ns = [a] ∧ x = .down a := by
  rcases ns with _ | ⟨a, _ | ⟨c, r⟩⟩ <;> simp [callIn] at h
  exact ⟨a, rfl, h.symm⟩
theorem in9 (h : callIn (9 :: ns) = some x) : ∃ a, ns = [a] ∧ x = .left a := by
  rcases ns with _ | ⟨a, _ | ⟨c, r⟩⟩ <;> simp [callIn] at h
  exact ⟨a, rfl, h.symm⟩
theorem in10 (h : callIn (10 :: ns) = some x) : ∃ a, ns = [a] ∧ x = .right a := by
  rcases ns with _ | ⟨a, _ | ⟨c, r⟩⟩ <;> simp [callIn] at h
  exact ⟨a, rfl, h.symm⟩
theorem in11 (h : callIn (11 :: ns) = some x) : ∃ a b c, ns = [a, b] ∧ x = .scroll c b ∧ (a : Int) = b01 c := by
  rcases ns with _ | ⟨a, _ | ⟨b, _ | ⟨c, r⟩⟩⟩ <;> simp [callIn] at h
  rcases h with ⟨e, q⟩ | ⟨e, q⟩
  · exact ⟨a, b, _, rfl, q.symm, bit_some e⟩
  · exact ⟨a, b, _, rfl, q.symm, bit_some e⟩
theorem in12 (h : callIn (12 :: ns) = some x) : ns = [] ∧ x = .point := by
  rcases ns with _ | ⟨a, r⟩ <;> simp [callIn] at h
  exact ⟨rfl, h.symm⟩
theorem in13 (h : callIn (13 :: ns) = some x) : ns = [] ∧ x = .shows := by
  rcases ns with _ | ⟨a, r⟩ <;> simp [callIn] at h
  exact ⟨rfl, h.symm⟩
theorem in14 (h : callIn (14 :: ns) = some x) : ∃ a, ns = [a] ∧ x = .rows a := by
  rcases ns with _ | ⟨a, _ | ⟨c, r⟩⟩ <;> simp [callIn] at h
  exact ⟨a, rfl, h.symm⟩
theorem in15 (h : callIn (15 :: ns) = some x) : ∃ a b, ns = [a, b] ∧ x = .at_ a b := by
  rcases ns with _ | ⟨a, _ | ⟨b, _ | ⟨c, r⟩⟩⟩ <;> simp [callIn] at h
  exact ⟨a, b, rfl, h.symm⟩
theorem in16 (h : callIn (16 :: ns) = some x) : ∃ a b, ns = [a, b] ∧ x = .where_ a b := by
  rcases ns with _ | ⟨a, _ | ⟨b, _ | ⟨c, r⟩⟩⟩ <;> simp [callIn] at h
  exact ⟨a, b, rfl, h.symm⟩
end
def sp_refused : Sp := fun vs H Q _ => ∃ (n : Int), vs = [.int n] ∧ ∀ p, H p = none → Q (.ref p) (upd H p (.lst [.int (-n)]))
theorem sc_refused : FnScope ["number"] ["number"] (defScope s_refused) := ⟨rfl, rfl, rfl, by decide +kernel, rfl, by decide +kernel, by decide +kernel⟩
-- slots of refused: number 0
theorem ok_refused (T : Tx K mg A) : FnOk P w K mg base CX0 1 A.f_refused A.d_refused ["number"] (sp_refused) := by
  refine T.t_refused.F.ok sc_refused (fun vs H Q E h => ?_) (fun cdv Ar outer s0 H vs Q E hr h => ?_)
  · obtain ⟨n, rfl, _⟩ := h
    rfl
  · obtain ⟨n, rfl, h⟩ := h
    refine ⟨_, (pss_one (ps_ret (pe_lst (pa_cons (pe_un un_neg (pv 0)) pa_nil)))), ?_⟩
    dsimp only [tRet, tRetN, tChain, tOp, tUn, tC, tVar, tSeq, tIfS, tAsg, gName, tTest, tB, tAnd, tOr, tNot, tAndV, tOrV, tNotV, tFld_eq, sFld_eq, sFldAug, L2.rAdd, L2.rSub, tCons, tNil, tLst, tTup, tCall, tMake, tCB, tCKw, tBM, tSl, tPart, tNoPart, tDrop, tNext, tBreak, iList, iRng1, iEnum, gTup, gCons, gNil, tAug, ipI, rI0, rI, rU, cxOf, Cx.nox, Cx.wish, L2.start, List.map, List.length, List.replicate, List.append]
    exact ⟨_, rfl, _, rfl, sz (by decide), fun p np => h p np⟩
end
end FV
namespace FV
open PySem PySem.Spec PyProof.Rows L2
section
variable {P : Program} {w : World} {K : PySem.W.Frag} {mg : Str → Option Value} {base : Heap} {A : Ad}
variable {H H' : Hp} {s dx lk L F av : Addr} {ls ts : List V} {g g' : Ue07.St} {Q : VK} {ans : List Int}
theorem Fin.refS {n : Int} (k : Fin A H s dx F av g [-n] Q) (S : StAt A H s dx lk L F ls ts g) (W : WF g) (a : Av av lk L F ls ts) {H1 : Hp} (s1 : Same H H1) {p : Addr} (np : H1 p = none) : Q (.ref p) (upd H1 p (.lst [.int (-n)])) :=
  k.ret S W a (s1.trans (same_upd np)) (s1.free np) upd_same
theorem Fin.to {x : Ue07.Call} (k : Fin A H s dx F av (Ue07.step g x).1 (Ue07.step g x).2 Q) {r : Ue07.St × List Int} (e : Ue07.step g x = r) : Fin A H s dx F av r.1 r.2 Q := by rw [e] at k; exact k
theorem sc_call_look : FnScope ["state", "told", "look"] ["state", "told"] (defScope s_call_look) := ⟨rfl, rfl, rfl, by decide +kernel, rfl, by decide +kernel, by decide +kernel⟩
-- slots of call_look: state 0, told 1, look 2
theorem ok_call_look (T : Tx K mg A) : FnOk P w K mg base CX0 8 A.f_call_look A.d_call_look ["state", "told"] (spCall A 0) := by
  refine T.t_call_look.F.ok sc_call_look (fun vs H Q E h => ?_) (fun cdv Ar outer s0 H vs Q E hr h => ?_)
  · obtain ⟨s, dx, lk, L, F, ls, ts, g, t, av, ns, x, rfl, _⟩ := h
    rfl
  · obtain ⟨s, dx, lk, L, F, ls, ts, g, t, av, ns, x, rfl, h⟩ := h
    refine ⟨_, (pss_cons (ps_set (i := 2) sc_call_look.nd rfl (.inl rfl) (pe_make T.t_Look.m (ok_initLook T) (hr.mono (by decide)) (by rfl) T.t_Look.g T.t_Look.b .nil pass0 (pa_cons (pe_ix ix_list (pv 1) (pe_int) (fun _ _ => rfl)) (pa_cons (pe_ix ix_list (pv 1) (pe_int) (fun _ _ => rfl)) (pa_cons (pe_ix ix_list (pv 1) (pe_int) (fun _ _ => rfl)) (pa_cons (pe_ix ix_list (pv 1) (pe_int) (fun _ _ => rfl)) (pa_cons (pe_ix ix_list (pv 1) (pe_int) (fun _ _ => rfl)) pa_nil)))))))
      (pss_cons (ps_if (PW.pt (pw_or (pt_not (pt_chain op_le op_le (pe_int) (pe_fld (pv 2) rfl) (pe_int))) (pw_or1 (pt_not (pt_chain op_le op_le (pe_int) (pe_fld (pv 2) rfl) (pe_int)))))) (pss_one (ps_ret (pe_call (ok_refused T) (hr.mono (by decide)) (by rfl) T.t_refused.g T.t_refused.F.kp T.t_refused.b .nil pass0 (pa_cons (pe_gi rfl T.v_WRONG) pa_nil)))) pss_nil)
      (pss_cons (ps_if (PW.pt (pw_or (pt_cmpR op_gt (pe_fld (pv 2) rfl) (pe_int) (nomark _)) (pw_or (pt_cmpR op_gt (pe_fld (pv 2) rfl) (pe_int) (nomark _)) (pw_or1 (pt_cmpR op_gt (pe_fld (pv 2) rfl) (pe_int) (nomark _)))))) (pss_one (ps_ret (pe_call (ok_refused T) (hr.mono (by decide)) (by rfl) T.t_refused.g T.t_refused.F.kp T.t_refused.b .nil pass0 (pa_cons (pe_gi rfl T.v_WRONG) pa_nil)))) pss_nil)
      (pss_cons (ps_fld (pv 0) (pv 2) rfl)
      (pss_one (ps_ret (pe_call (ok_unwished T) (hr.mono (by decide)) (by rfl) T.t_unwished.g T.t_unwished.F.kp T.t_unwished.b .nil pass0 (pa_cons (pv 0) pa_nil)))))))), ?_⟩
    dsimp only [tRet, tRetN, tChain, tOp, tUn, tC, tVar, tSeq, tIfS, tAsg, gName, tTest, tB, tAnd, tOr, tNot, tAndV, tOrV, tNotV, tFld_eq, sFld_eq, sFldAug, L2.rAdd, L2.rSub, tCons, tNil, tLst, tTup, tCall, tMake, tCB, tCKw, tBM, tSl, tPart, tNoPart, tDrop, tNext, tBreak, iList, iRng1, iEnum, gTup, gCons, gNil, tAug, ipI, rI0, rI, rU, cxOf, Cx.nox, Cx.wish, L2.start, List.map, List.length, List.replicate, List.append]
    obtain ⟨S, W, ht, hn, hc, hav, a, k⟩ := h
    obtain ⟨w0, t0, m0, a0, b0, lo, rfl, rfl, rfl, rfl, rfl, e1, e2⟩ := in0 hc
    refine ⟨_, rfl, td0 ht ?_⟩
    refine ⟨_, rfl, td1 ht ?_⟩
    refine ⟨_, rfl, td2 ht ?_⟩
    refine ⟨_, rfl, td3 ht ?_⟩
    refine ⟨_, rfl, td4 ht ?_⟩
    intro x dx2 nx nd ne
    rw [e1, e2]
    refine ⟨x, dx2, lo, rfl, upd_same, fun H1 hk kp => ⟨rfl, ?_⟩⟩
    have s1 : Same H H1 := Same.made nx nd kp
    have S1 := S.same s1
    have R : Ue07.lookOk lo = false → sp_refused [.int 1] H1 Q E0 := fun e => ⟨1, rfl, fun p np => (k.to (r := (g, [-1])) (if_pos e)).refS S W a s1 np⟩
    have hbad : ¬ (4 ≤ lo.wide ∧ lo.wide ≤ 100 ∧ 1 ≤ lo.tab ∧ lo.tab ≤ 16 ∧ lo.more ≤ 100) → Ue07.lookOk lo = false := fun h => by
      cases e : Ue07.lookOk lo with
      | false => rfl
      | true => exact absurd (lookOk_iff.mp e) h
    have hb1 : ¬ (1 : Int) < b01 lo.hang := by unfold b01; split <;> omega
    have hb2 : ¬ (1 : Int) < b01 lo.words := by unfold b01; split <;> omega
    obtain ⟨dk, hk1⟩ := hk
    refine ⟨_, rfl, r_Look_wide T hk1 ?_⟩
    refine ⟨_, _, rfl, rfl, _, rfl, ifd (fun c1 => ⟨_, _, rfl, rfl, _, rfl, ifnd (fun c2 => iteT (R (hbad (by omega)))) (fun c2 => ?_)⟩) (fun c1 => ⟨_, rfl, iteT (iteT (R (hbad (by omega))))⟩)⟩
    refine ⟨_, rfl, r_Look_tab T hk1 ?_⟩
    refine ⟨_, _, rfl, rfl, _, rfl, ifd (fun c3 => ⟨_, _, rfl, rfl, _, rfl, ifnd (fun c4 => R (hbad (by omega))) (fun c4 => ?_)⟩) (fun c3 => ⟨_, rfl, iteT (R (hbad (by omega)))⟩)⟩
    refine ⟨_, rfl, r_Look_more T hk1 ?_⟩
    refine ⟨_, _, rfl, rfl, _, rfl, ifd (fun c5 => iteT (R (hbad (by omega)))) (fun c5 => ?_)⟩
    refine ⟨_, rfl, r_Look_hang T hk1 ?_⟩
    refine ⟨_, _, rfl, rfl, _, rfl, ifd (fun c6 => absurd c6 hb1) (fun c6 => ?_)⟩
    refine ⟨_, rfl, r_Look_words T hk1 ?_⟩
    refine ⟨_, _, rfl, rfl, _, rfl, ifd (fun c7 => absurd c7 hb2) (fun c7 => ?_)⟩
    have ok : Ue07.lookOk lo = true := lookOk_iff.mpr ⟨by omega, by omega, by omega, by omega, by omega⟩
    have W0 : WF0 { g with look := lo, wish := none } := ⟨ok, W.n1, W.n2, W.ln, W.pl, W.sn, W.pc, W.fl, W.fw, W.h1, W.h2⟩
    refine ⟨_, rfl, _, rfl, st_look T S1 ⟨dk, hk1⟩ fun H2 b2 S2 => ?_⟩
    refine ⟨_, rfl, s, dx, x, L, F, ls, ts, _, rfl, S2, W0, ?_⟩
    refine (k.to (r := Ue07.answers (Ue07.scrolled { g with look := lo, wish := none })) (if_neg (by rw [ok]; decide))).but W0.scrolled ⟨ne_av hav nx, a.l, a.f, a.ls, a.ts⟩ ((same_but s1 s).trans b2) S2.o
theorem sc_call_window : FnScope ["state", "told"] ["state", "told"] (defScope s_call_window) := ⟨rfl, rfl, rfl, by decide +kernel, rfl, by decide +kernel, by decide +kernel⟩
-- slots of call_window: state 0, told 1
theorem ok_call_window (T : Tx K mg A) : FnOk P w K mg base CX0 7 A.f_call_window A.d_call_window ["state", "told"] (spCall A 1) := by
  refine T.t_call_window.F.ok sc_call_window (fun vs H Q E h => ?_) (fun cdv Ar outer s0 H vs Q E hr h => ?_)
  · obtain ⟨s, dx, lk, L, F, ls, ts, g, t, av, ns, x, rfl, _⟩ := h
    rfl
  · obtain ⟨s, dx, lk, L, F, ls, ts, g, t, av, ns, x, rfl, h⟩ := h
    refine ⟨_, (pss_cons (ps_if (PW.pt (pw_or (pt_not (pt_chain op_le op_le (pe_int) (pe_ix ix_list (pv 1) (pe_int) (fun _ _ => rfl)) (pe_int))) (pw_or1 (pt_cmpR op_gt (pe_ix ix_list (pv 1) (pe_int) (fun _ _ => rfl)) (pe_int) (nomark _))))) (pss_one (ps_ret (pe_call (ok_refused T) (hr.mono (by decide)) (by rfl) T.t_refused.g T.t_refused.F.kp T.t_refused.b .nil pass0 (pa_cons (pe_gi rfl T.v_WRONG) pa_nil)))) pss_nil)
      (pss_cons (ps_fld (pv 0) (pe_ix ix_list (pv 1) (pe_int) (fun _ _ => rfl)) rfl)
      (pss_cons (ps_fld (pv 0) (pe_ix ix_list (pv 1) (pe_int) (fun _ _ => rfl)) rfl)
      (pss_one (ps_ret (pe_call (ok_scrolled T) (hr.mono (by decide)) (by rfl) T.t_scrolled.g T.t_scrolled.F.kp T.t_scrolled.b .nil pass0 (pa_cons (pv 0) pa_nil))))))), ?_⟩
    dsimp only [tRet, tRetN, tChain, tOp, tUn, tC, tVar, tSeq, tIfS, tAsg, gName, tTest, tB, tAnd, tOr, tNot, tAndV, tOrV, tNotV, tFld_eq, sFld_eq, sFldAug, L2.rAdd, L2.rSub, tCons, tNil, tLst, tTup, tCall, tMake, tCB, tCKw, tBM, tSl, tPart, tNoPart, tDrop, tNext, tBreak, iList, iRng1, iEnum, gTup, gCons, gNil, tAug, ipI, rI0, rI, rU, cxOf, Cx.nox, Cx.wish, L2.start, List.map, List.length, List.replicate, List.append]
    obtain ⟨S, W, ht, hn, hc, hav, a, k⟩ := h
    obtain ⟨h0, m0, rfl, rfl⟩ := in1 hc
    have R : (h0 = 0 ∨ 60 < h0 ∨ 60 < m0) → sp_refused [.int 1] H Q E0 := fun e => ⟨1, rfl, fun p np => (k.to (r := (g, [-1])) (if_pos e)).ref S W a np⟩
    refine ⟨_, rfl, td0 ht ?_⟩
    refine ⟨_, _, rfl, rfl, _, rfl, ifd (fun c1 => ⟨_, _, rfl, rfl, _, rfl, ifnd (fun c2 => iteT (R (by omega))) (fun c2 => ?_)⟩) (fun c1 => ⟨_, rfl, iteT (iteT (R (by omega)))⟩)⟩
    refine ⟨_, rfl, td1 ht ?_⟩
    refine ⟨_, _, rfl, rfl, _, rfl, ifd (fun c3 => R (by omega)) (fun c3 => ?_)⟩
    refine ⟨_, rfl, td0 ht ?_⟩
    refine ⟨_, rfl, st_high T S fun H1 b1 S1 => ?_⟩
    have ht1 := S.but_lst b1 ht
    refine ⟨_, rfl, td1 ht1 ?_⟩
    refine ⟨_, rfl, st_margin T S1 fun H2 b2 S2 => ?_⟩
    have W0 : WF0 { g with high := h0, margin := m0 } := ⟨W.lk, W.n1, W.n2, W.ln, W.pl, W.sn, W.pc, W.fl, W.fw, by show 1 ≤ h0; omega, by show h0 ≤ 60; omega⟩
    refine ⟨_, rfl, s, dx, lk, L, F, ls, ts, _, rfl, S2, W0, ?_⟩
    exact (k.to (r := Ue07.answers (Ue07.scrolled { g with high := h0, margin := m0 })) (if_neg (by omega))).but W0.scrolled a (b1.trans b2) S2.o
theorem sc_call_point : FnScope ["state", "told"] ["state", "told"] (defScope s_call_point) := ⟨rfl, rfl, rfl, by decide +kernel, rfl, by decide +kernel, by decide +kernel⟩
-- slots of call_point: state 0, told 1
theorem ok_call_point (T : Tx K mg A) : FnOk P w K mg base CX0 6 A.f_call_point A.d_call_point ["state", "told"] (spCall A 12) := by
  refine T.t_call_point.F.ok sc_call_point (fun vs H Q E h => ?_) (fun cdv Ar outer s0 H vs Q E hr h => ?_)
  · obtain ⟨s, dx, lk, L, F, ls, ts, g, t, av, ns, x, rfl, _⟩ := h
    rfl
  · obtain ⟨s, dx, lk, L, F, ls, ts, g, t, av, ns, x, rfl, h⟩ := h
    refine ⟨_, (pss_one (ps_ret (pe_call (ok_point_answer T) (hr.mono (by decide)) (by rfl) T.t_point_answer.g T.t_point_answer.F.kp T.t_point_answer.b .nil pass0 (pa_cons (pv 0) (pa_cons (pe_call (ok_seen_rows T) (hr.mono (by decide)) (by rfl) T.t_seen_rows.g T.t_seen_rows.F.kp T.t_seen_rows.b .nil pass0 (pa_cons (pv 0) pa_nil)) pa_nil))))), ?_⟩
    dsimp only [tRet, tRetN, tChain, tOp, tUn, tC, tVar, tSeq, tIfS, tAsg, gName, tTest, tB, tAnd, tOr, tNot, tAndV, tOrV, tNotV, tFld_eq, sFld_eq, sFldAug, L2.rAdd, L2.rSub, tCons, tNil, tLst, tTup, tCall, tMake, tCB, tCKw, tBM, tSl, tPart, tNoPart, tDrop, tNext, tBreak, iList, iRng1, iEnum, gTup, gCons, gNil, tAug, ipI, rI0, rI, rU, cxOf, Cx.nox, Cx.wish, L2.start, List.map, List.length, List.replicate, List.append]
    obtain ⟨S, W, ht, hn, hc, hav, a, k⟩ := h
    obtain ⟨rfl, rfl⟩ := in12 hc
    refine ⟨_, rfl, _, rfl, s, dx, lk, L, F, ls, ts, g, rfl, S, W.toWF0, fun H1 p xs s1 np hp hA => ?_⟩
    exact ⟨s, dx, lk, L, F, ls, ts, g, p, xs, rfl, S.same s1, W.toWF0, W.tr, hp, hA, fun H2 q s2 nq hq => k.ret S W a (s1.trans s2) (s1.free nq) hq⟩
theorem rows_loop {l : List (Nat × Ue07.Row)} {i : Nat} {x : Nat × Ue07.Row} {f : Nat × Ue07.Row → List Nat} (h : l[i]? = some x) : Ue07.ints ((l.take (i + 1)).flatMap f) = Ue07.ints ((l.take i).flatMap f) ++ Ue07.ints (f x) := by
  rw [take_snoc h, List.flatMap_append, List.flatMap_cons, List.flatMap_nil, List.append_nil]
  exact List.map_append ..
theorem iV_len (l : List Int) : (iV l).length = l.length := List.length_map ..
theorem ints_len (l : List Nat) : (Ue07.ints l).length = l.length := List.length_map ..
theorem flat_len {α : Type} {f : α → List Nat} {b : Nat} : ∀ {l : List α}, (∀ x ∈ l, (f x).length = b) → (l.flatMap f).length = l.length * b
  | [], _ => by simp
  | x :: l, h => by
    rw [List.flatMap_cons, List.length_append, h x (List.mem_cons_self ..), flat_len fun y hy => h y (List.mem_cons_of_mem _ hy), List.length_cons, Nat.add_mul]
    omega
theorem sc_call_shows : FnScope ["state", "told", "rows", "answer", "row"] ["state", "told"] (defScope s_call_shows) := ⟨rfl, rfl, rfl, by decide +kernel, rfl, by decide +kernel, by decide +kernel⟩
-- slots of call_shows: state 0, told 1, rows 2, answer 3, row 4
theorem ok_call_shows (T : Tx K mg A) : FnOk P w K mg base CX0 6 A.f_call_shows A.d_call_shows ["state", "told"] (spCall A 13) := by
  refine T.t_call_shows.F.ok sc_call_shows (fun vs H Q E h => ?_) (fun cdv Ar outer s0 H vs Q E hr h => ?_)
  · obtain ⟨s, dx, lk, L, F, ls, ts, g, t, av, ns, x, rfl, _⟩ := h
    rfl
  · obtain ⟨s, dx, lk, L, F, ls, ts, g, t, av, ns, x, rfl, h⟩ := h
    refine ⟨_, (pss_cons (ps_set (i := 2) sc_call_shows.nd rfl (.inl rfl) (pe_slice sl_list (pe_call (ok_seen_rows T) (hr.mono (by decide)) (by rfl) T.t_seen_rows.g T.t_seen_rows.F.kp T.t_seen_rows.b .nil pass0 (pa_cons (pv 0) pa_nil)) (po_some (pe_fld (pv 0) rfl)) (po_some (pe_op op_add (pe_fld (pv 0) rfl) (pe_fld (pv 0) rfl)))))
      (pss_cons (ps_set (i := 3) sc_call_shows.nd rfl (.inl rfl) (pe_lst (pa_cons (pe_callB call_len_seq (by rfl) T.z_len PySem.boot_len (pa_cons (pv 2) pa_nil)) pa_nil)))
      (pss_cons (ps_for PassesOwn.never rfl (pi_list (pv 2)) (pg_name (i := 4) sc_call_shows.nd rfl (.inl rfl)) (pss_one (ps_expr (pe_bm PySem.F.plainAttrs_list PySem.F.slot_list_extend PySem.F.type_list_extend mt_extend (pv 3) (pa_cons (pe_lst (pa_cons (pe_fld (pv 4) rfl) (pa_cons (pe_fld (pv 4) rfl) (pa_cons (pe_fld (pv 4) rfl) (pa_cons (pe_fld (pv 4) rfl) pa_nil))))) pa_nil)))))
      (pss_one (ps_ret (pv 3)))))), ?_⟩
    dsimp only [tRet, tRetN, tChain, tOp, tUn, tC, tVar, tSeq, tIfS, tAsg, gName, tTest, tB, tAnd, tOr, tNot, tAndV, tOrV, tNotV, tFld_eq, sFld_eq, sFldAug, L2.rAdd, L2.rSub, tCons, tNil, tLst, tTup, tCall, tMake, tCB, tCKw, tBM, tSl, tPart, tNoPart, tDrop, tNext, tBreak, iList, iRng1, iEnum, gTup, gCons, gNil, tAug, ipI, rI0, rI, rU, cxOf, Cx.nox, Cx.wish, L2.start, List.map, List.length, List.replicate, List.append]
    obtain ⟨S, W, ht, hn, hc, hav, a, k⟩ := h
    obtain ⟨rfl, rfl⟩ := in13 hc
    refine ⟨_, rfl, s, dx, lk, L, F, ls, ts, g, rfl, S, W.toWF0, fun H1 p xs s1 np hp hA => ?_⟩
    have S1 := S.same s1
    refine ⟨_, rfl, r_State_top T S1.o ?_⟩
    refine ⟨_, rfl, _, rfl, r_State_top T S1.o ?_⟩
    refine ⟨_, rfl, r_State_high T S1.o ?_⟩
    refine ⟨_, _, rfl, rfl, _, rfl, p, xs, rfl, SqL.of hp, fun c nc => ?_⟩
    have ec : cutV xs (some (g.top : Int)) (some ((g.top : Int) + (g.high : Int))) = (xs.drop g.top).take g.high := by
      have := cut_mid xs g.top (g.top + g.high)
      rw [List.drop_take, Nat.add_sub_cancel_left] at this
      exact this
    rw [ec]
    have hA1 : All2 (RwV A H1) ((xs.drop g.top).take g.high) (((Ue07.allRows g).drop g.top).take g.high) := (hA.drop _).take _
    have hl60 : (((Ue07.allRows g).drop g.top).take g.high).length ≤ 60 := by
      rw [List.length_take]
      have := W.h2
      omega
    have k' : Fin A H s dx F av g (((((Ue07.allRows g).drop g.top).take g.high).length : Int) :: Ue07.ints ((((Ue07.allRows g).drop g.top).take g.high).flatMap Ue07.rowAnswer)) Q := k
    generalize (xs.drop g.top).take g.high = ys at hA1
    generalize ((Ue07.allRows g).drop g.top).take g.high = l at hA1 hl60 k'
    have s2 : Same H1 (upd H1 c (.lst ys)) := same_upd nc
    refine ⟨_, rfl, c, _, rfl, .inl (SqL.of upd_same), sz (by decide), fun z nz => ?_⟩
    have s3 : Same (upd H1 c (.lst ys)) (upd (upd H1 c (.lst ys)) z (.lst [.int (ys.length : Int)])) := same_upd nz
    have s03 : Same H (upd (upd H1 c (.lst ys)) z (.lst [.int (ys.length : Int)])) := (s1.trans s2).trans s3
    have nzH : H z = none := (s1.trans s2).free nz
    have ncz : c ≠ z := fun e => by rw [← e, upd_same] at nz; cases nz
    refine w_for ?_
    refine ⟨_, rfl, c, rfl, ⟨_, SqL.of (s3 _ _ upd_same)⟩, ?_⟩
    refine forG_list (xs := ys) (fun i σ H' => (∃ v, σ = [some (.ref s), some (.ref t), some (.ref c), some (.ref z), v]) ∧ Same H H' ∧ H' c = some (.lst ys) ∧ All2 (RwV A H') ys l ∧ H' z = some (.lst (iV ((l.length : Int) :: Ue07.ints ((l.take i).flatMap Ue07.rowAnswer)))))
      ⟨⟨_, rfl⟩, s03, s3 _ _ upd_same, rws_same s3 (rws_same s2 hA1), by rw [upd_same, hA1.len]; rfl⟩ (fun i σ H' _ ⟨_, _, h, _⟩ => SqL.of h) ?_ ?_
    · rintro i x σ H' hx ⟨⟨v, rfl⟩, s4, hc4, hA4, hz4⟩
      obtain ⟨r, hr2, b, rfl, d, hb⟩ := hA4.get hx
      refine ⟨_, rfl, .inl ⟨rfl, _, SqL.of hz4⟩, ?_⟩
      refine ⟨_, rfl, r_Row_line T hb ?_⟩
      refine ⟨_, rfl, r_Row_begin T hb ?_⟩
      refine ⟨_, rfl, r_Row_behind T hb ?_⟩
      refine ⟨_, rfl, r_Row_column T hb ?_⟩
      refine ⟨sz (by show 4 ≤ 100000; decide), fun e ne => ?_⟩
      have s5 : Same H' (upd H' e (.lst [.int r.1, .int r.2.a, .int r.2.b, .int r.2.col])) := same_upd ne
      have hz5 := s5 _ _ hz4
      refine ⟨z, e, _, _, rfl, rfl, hz5, upd_same, sz ?_, ?_⟩
      · rw [iV_len, List.length_cons, ints_len, flat_len (b := 4) (fun _ _ => rfl), List.length_take]
        show min i l.length * 4 + 1 + 4 ≤ 100000
        omega
      refine ⟨⟨_, rfl⟩, fun y o hy => ?_, ?_, Rows.upd_lst hz5 (rws_same s5 hA4), ?_⟩
      · rw [upd_ne (ne_of_none hy nzH)]
        exact s5 _ _ (s4 _ _ hy)
      · rw [upd_ne ncz]
        exact s5 _ _ hc4
      · rw [upd_same, rows_loop hr2]
        unfold iV
        rw [List.map_cons, List.map_cons, List.map_append]
        rfl
    · rintro σ H' ⟨⟨v, rfl⟩, s4, hc4, hA4, hz4⟩
      rw [hA4.len, List.take_length] at hz4
      exact ⟨_, rfl, k'.ret S W a s4 nzH hz4⟩
theorem sc_call_rows : FnScope ["state", "told", "rows", "answer", "row"] ["state", "told"] (defScope s_call_rows) := ⟨rfl, rfl, rfl, by decide +kernel, rfl, by decide +kernel, by decide +kernel⟩
-- slots of call_rows: state 0, told 1, rows 2, answer 3, row 4
theorem ok_call_rows (T : Tx K mg A) : FnOk P w K mg base CX0 5 A.f_call_rows A.d_call_rows ["state", "told"] (spCall A 14) := by
  refine T.t_call_rows.F.ok sc_call_rows (fun vs H Q E h => ?_) (fun cdv Ar outer s0 H vs Q E hr h => ?_)
  · obtain ⟨s, dx, lk, L, F, ls, ts, g, t, av, ns, x, rfl, _⟩ := h
    rfl
  · obtain ⟨s, dx, lk, L, F, ls, ts, g, t, av, ns, x, rfl, h⟩ := h
    refine ⟨_, (pss_cons (ps_if (pt_cmpR op_ge (pe_ix ix_list (pv 1) (pe_int) (fun _ _ => rfl)) (pe_callB call_len_seq (by rfl) T.z_len PySem.boot_len (pa_cons (pe_fld (pv 0) rfl) pa_nil)) (nomark _)) (pss_one (ps_ret (pe_call (ok_refused T) (hr.mono (by decide)) (by rfl) T.t_refused.g T.t_refused.F.kp T.t_refused.b .nil pass0 (pa_cons (pe_gi rfl T.v_WRONG) pa_nil)))) pss_nil)
      (pss_cons (ps_set (i := 2) sc_call_rows.nd rfl (.inl rfl) (pe_call (ok_line_rows T) (hr.mono (by decide)) (by rfl) T.t_line_rows.g T.t_line_rows.F.kp T.t_line_rows.b .nil pass0 (pa_cons (pe_fld (pv 0) rfl) (pa_cons (pe_ix ix_list (pv 1) (pe_int) (fun _ _ => rfl)) (pa_cons (pe_ix ix_list (pe_fld (pv 0) rfl) (pe_ix ix_list (pv 1) (pe_int) (fun _ _ => rfl)) (fun _ _ => rfl)) pa_nil)))))
      (pss_cons (ps_set (i := 3) sc_call_rows.nd rfl (.inl rfl) (pe_lst (pa_cons (pe_callB call_len_seq (by rfl) T.z_len PySem.boot_len (pa_cons (pv 2) pa_nil)) pa_nil)))
      (pss_cons (ps_for PassesOwn.never rfl (pi_list (pv 2)) (pg_name (i := 4) sc_call_rows.nd rfl (.inl rfl)) (pss_one (ps_expr (pe_bm PySem.F.plainAttrs_list PySem.F.slot_list_extend PySem.F.type_list_extend mt_extend (pv 3) (pa_cons (pe_lst (pa_cons (pe_fld (pv 4) rfl) (pa_cons (pe_fld (pv 4) rfl) (pa_cons (pe_fld (pv 4) rfl) pa_nil)))) pa_nil)))))
      (pss_one (ps_ret (pv 3))))))), ?_⟩
    dsimp only [tRet, tRetN, tChain, tOp, tUn, tC, tVar, tSeq, tIfS, tAsg, gName, tTest, tB, tAnd, tOr, tNot, tAndV, tOrV, tNotV, tFld_eq, sFld_eq, sFldAug, L2.rAdd, L2.rSub, tCons, tNil, tLst, tTup, tCall, tMake, tCB, tCKw, tBM, tSl, tPart, tNoPart, tDrop, tNext, tBreak, iList, iRng1, iEnum, gTup, gCons, gNil, tAug, ipI, rI0, rI, rU, cxOf, Cx.nox, Cx.wish, L2.start, List.map, List.length, List.replicate, List.append]
    obtain ⟨S, W, ht, hn, hc, hav, a, k⟩ := h
    obtain ⟨n, rfl, rfl⟩ := in14 hc
    have hls := S.lA.len
    refine ⟨_, rfl, td0 ht ?_⟩
    refine ⟨_, rfl, r_State_lines T S.o ?_⟩
    refine ⟨L, _, rfl, .inl (SqL.of S.l), ?_⟩
    refine ⟨_, _, rfl, rfl, _, rfl, ifd (fun c1 => ?_) (fun c1 => ?_)⟩
    · have e : Ue07.step g (.rows n) = (g, [-1]) := congrArg (fun z => (g, z)) (if_pos (show g.lines.length ≤ n by omega))
      exact ⟨1, rfl, fun p np => (k.to e).ref S W a np⟩
    have hlt : n < g.lines.length := by omega
    have k' : Fin A H s dx F av g (((Ue07.rows g.look (Ue07.lineAt g n)).length : Int) :: Ue07.ints ((Ue07.rows g.look (Ue07.lineAt g n)).flatMap fun r => [r.a, r.b, r.col])) Q := by
      have e : Ue07.step g (.rows n) = (g, ((Ue07.rows g.look (Ue07.lineAt g n)).length : Int) :: Ue07.ints ((Ue07.rows g.look (Ue07.lineAt g n)).flatMap fun r => [r.a, r.b, r.col])) := congrArg (fun z => (g, z)) (if_neg (show ¬ g.lines.length ≤ n by omega))
      exact k.to e
    obtain ⟨b, hb1, hb2⟩ := S.line_at hlt
    refine ⟨_, rfl, r_State_look T S.o ?_⟩
    refine ⟨_, rfl, td0 ht ?_⟩
    refine ⟨_, rfl, r_State_lines T S.o ?_⟩
    refine ⟨_, rfl, td0 ht ?_⟩
    refine ⟨L, _, _, _, rfl, rfl, SqL.of S.l, atI_nat hb1, ?_⟩
    refine ⟨lk, n, b, g.look, Ue07.lineAt g n, rfl, S.k, W.toWF0.tabOk, SqL.of hb2, W.toWF0.len n, fun H1 p ys s1 np hp hA1 => ?_⟩
    have hl121 : ((Ue07.rows g.look (Ue07.lineAt g n)).map fun r => (n, r)).length ≤ 121 := by rw [List.length_map]; exact W.toWF0.rows_len n
    have k2 : Fin A H s dx F av g ((((Ue07.rows g.look (Ue07.lineAt g n)).map fun r => (n, r)).length : Int) :: Ue07.ints (((Ue07.rows g.look (Ue07.lineAt g n)).map fun r => (n, r)).flatMap fun x => [x.2.a, x.2.b, x.2.col])) Q := by
      rw [List.length_map, List.flatMap_map]
      exact k'
    generalize (Ue07.rows g.look (Ue07.lineAt g n)).map (fun r => (n, r)) = l at hA1 hl121 k2
    refine ⟨_, rfl, p, _, rfl, .inl (SqL.of hp), sz (by decide), fun z nz => ?_⟩
    have s3 : Same H1 (upd H1 z (.lst [.int (ys.length : Int)])) := same_upd nz
    have nzH : H z = none := s1.free nz
    have ncz : p ≠ z := fun e => by rw [← e, hp] at nz; cases nz
    refine w_for ?_
    refine ⟨_, rfl, p, rfl, ⟨_, SqL.of (s3 _ _ hp)⟩, ?_⟩
    refine forG_list (xs := ys) (fun i σ H' => (∃ v, σ = [some (.ref s), some (.ref t), some (.ref p), some (.ref z), v]) ∧ Same H H' ∧ H' p = some (.lst ys) ∧ All2 (RwV A H') ys l ∧ H' z = some (.lst (iV ((l.length : Int) :: Ue07.ints ((l.take i).flatMap fun x => [x.2.a, x.2.b, x.2.col])))))
      ⟨⟨_, rfl⟩, s1.trans s3, s3 _ _ hp, rws_same s3 hA1, by rw [upd_same, hA1.len]; rfl⟩ (fun i σ H' _ ⟨_, _, h, _⟩ => SqL.of h) ?_ ?_
    · rintro i x σ H' hx ⟨⟨v, rfl⟩, s4, hc4, hA4, hz4⟩
      obtain ⟨r, hr2, b, rfl, d, hb⟩ := hA4.get hx
      refine ⟨_, rfl, .inl ⟨rfl, _, SqL.of hz4⟩, ?_⟩
      refine ⟨_, rfl, r_Row_begin T hb ?_⟩
      refine ⟨_, rfl, r_Row_behind T hb ?_⟩
      refine ⟨_, rfl, r_Row_column T hb ?_⟩
      refine ⟨sz (by show 3 ≤ 100000; decide), fun e ne => ?_⟩
      have s5 : Same H' (upd H' e (.lst [.int r.2.a, .int r.2.b, .int r.2.col])) := same_upd ne
      have hz5 := s5 _ _ hz4
      refine ⟨z, e, _, _, rfl, rfl, hz5, upd_same, sz ?_, ?_⟩
      · rw [iV_len, List.length_cons, ints_len, flat_len (b := 3) (fun _ _ => rfl), List.length_take]
        show min i l.length * 3 + 1 + 3 ≤ 100000
        omega
      refine ⟨⟨_, rfl⟩, fun y o hy => ?_, ?_, Rows.upd_lst hz5 (rws_same s5 hA4), ?_⟩
      · rw [upd_ne (ne_of_none hy nzH)]
        exact s5 _ _ (s4 _ _ hy)
      · rw [upd_ne ncz]
        exact s5 _ _ hc4
      · rw [upd_same, rows_loop hr2]
        unfold iV
        rw [List.map_cons, List.map_cons, List.map_append]
        rfl
    · rintro σ H' ⟨⟨v, rfl⟩, s4, hc4, hA4, hz4⟩
      rw [hA4.len, List.take_length] at hz4
      exact ⟨_, rfl, k2.ret S W a s4 nzH hz4⟩
end
end FV
namespace FV
open PySem PySem.Spec PyProof.Rows L2
section
variable {P : Program} {w : World} {K : PySem.W.Frag} {mg : Str → Option Value} {base : Heap} {A : Ad}
variable {H H' : Hp} {s dx lk L F av : Addr} {ls ts : List V} {g g' : Ue07.St} {Q : VK} {ans : List Int}
theorem sc_call_at : FnScope ["state", "told", "rows", "number"] ["state", "told"] (defScope s_call_at) := ⟨rfl, rfl, rfl, by decide +kernel, rfl, by decide +kernel, by decide +kernel⟩
-- slots of call_at: state 0, told 1, rows 2, number 3
theorem ok_call_at (T : Tx K mg A) : FnOk P w K mg base CX0 6 A.f_call_at A.d_call_at ["state", "told"] (spCall A 15) := by
  refine T.t_call_at.F.ok sc_call_at (fun vs H Q E h => ?_) (fun cdv Ar outer s0 H vs Q E hr h => ?_)
  · obtain ⟨s, dx, lk, L, F, ls, ts, g, t, av, ns, x, rfl, _⟩ := h
    rfl
  · obtain ⟨s, dx, lk, L, F, ls, ts, g, t, av, ns, x, rfl, h⟩ := h
    refine ⟨_, (pss_cons (ps_if (PW.pt (pw_or (pt_cmpR op_ge (pe_ix ix_list (pv 1) (pe_int) (fun _ _ => rfl)) (pe_fld (pv 0) rfl) (nomark _)) (pw_or1 (pt_cmpR op_ge (pe_ix ix_list (pv 1) (pe_int) (fun _ _ => rfl)) (pe_fld (pe_fld (pv 0) rfl) rfl) (nomark _))))) (pss_one (ps_ret (pe_call (ok_refused T) (hr.mono (by decide)) (by rfl) T.t_refused.g T.t_refused.F.kp T.t_refused.b .nil pass0 (pa_cons (pe_gi rfl T.v_WRONG) pa_nil)))) pss_nil)
      (pss_cons (ps_set (i := 2) sc_call_at.nd rfl (.inl rfl) (pe_call (ok_seen_rows T) (hr.mono (by decide)) (by rfl) T.t_seen_rows.g T.t_seen_rows.F.kp T.t_seen_rows.b .nil pass0 (pa_cons (pv 0) pa_nil)))
      (pss_cons (ps_set (i := 3) sc_call_at.nd rfl (.inl rfl) (pe_op op_add (pe_fld (pv 0) rfl) (pe_ix ix_list (pv 1) (pe_int) (fun _ _ => rfl))))
      (pss_cons (ps_if (pt_cmpR op_ge (pv 3) (pe_callB call_len_seq (by rfl) T.z_len PySem.boot_len (pa_cons (pv 2) pa_nil)) (nomark _)) (pss_one (ps_ret (pe_call (ok_refused T) (hr.mono (by decide)) (by rfl) T.t_refused.g T.t_refused.F.kp T.t_refused.b .nil pass0 (pa_cons (pe_gi rfl T.v_MISSING) pa_nil)))) pss_nil)
      (pss_one (ps_ret (pe_lst (pa_cons (pe_fld (pe_ix ix_list (pv 2) (pv 3) (fun _ _ => rfl)) rfl) (pa_cons (pe_call (ok_row_place T) (hr.mono (by decide)) (by rfl) T.t_row_place.g T.t_row_place.F.kp T.t_row_place.b .nil pass0 (pa_cons (pv 0) (pa_cons (pe_ix ix_list (pv 2) (pv 3) (fun _ _ => rfl)) (pa_cons (pe_ix ix_list (pv 1) (pe_int) (fun _ _ => rfl)) pa_nil)))) pa_nil))))))))), ?_⟩
    dsimp only [tRet, tRetN, tChain, tOp, tUn, tC, tVar, tSeq, tIfS, tAsg, gName, tTest, tB, tAnd, tOr, tNot, tAndV, tOrV, tNotV, tFld_eq, sFld_eq, sFldAug, L2.rAdd, L2.rSub, tCons, tNil, tLst, tTup, tCall, tMake, tCB, tCKw, tBM, tSl, tPart, tNoPart, tDrop, tNext, tBreak, iList, iRng1, iEnum, gTup, gCons, gNil, tAug, ipI, rI0, rI, rU, cxOf, Cx.nox, Cx.wish, L2.start, List.map, List.length, List.replicate, List.append]
    obtain ⟨S, W, ht, hn, hc, hav, a, k⟩ := h
    obtain ⟨r, c, rfl, rfl⟩ := in15 hc
    have R : g.high ≤ r ∨ g.look.wide ≤ c → sp_refused [.int 1] H Q E0 := fun e => ⟨1, rfl, fun p np => (k.to (r := (g, [-1])) (congrArg (fun z => (g, z)) (if_pos e))).ref S W a np⟩
    obtain ⟨dk, hk⟩ := S.k
    refine ⟨_, rfl, td0 ht ?_⟩
    refine ⟨_, rfl, r_State_high T S.o ?_⟩
    refine ⟨_, _, rfl, rfl, _, rfl, ifd (fun c1 => iteT (R (by omega))) (fun c1 => ?_)⟩
    refine ⟨_, rfl, td1 ht ?_⟩
    refine ⟨_, rfl, r_State_look T S.o ?_⟩
    refine r_Look_wide T hk ?_
    refine ⟨_, _, rfl, rfl, _, rfl, ifd (fun c2 => R (by omega)) (fun c2 => ?_)⟩
    have hno : ¬ (g.high ≤ r ∨ g.look.wide ≤ c) := by omega
    have k1 : Fin A H s dx F av g (match (Ue07.allRows g)[g.top + r]? with
      | none => [-6]
      | some x => Ue07.ints [x.1, Ue07.placeIn g.look (Ue07.lineAt g x.1) x.2 c]) Q := k.to (r := (g, _)) (congrArg (fun z => (g, z)) (if_neg hno))
    refine ⟨_, rfl, s, dx, lk, L, F, ls, ts, g, rfl, S, W.toWF0, fun H1 p xs s1 np hp hA => ?_⟩
    have S1 := S.same s1
    have ht1 := s1 _ _ ht
    refine ⟨_, rfl, r_State_top T S1.o ?_⟩
    refine ⟨_, rfl, td0 ht1 ?_⟩
    refine ⟨_, _, rfl, rfl, ?_⟩
    have hxl := hA.len
    refine ⟨_, rfl, _, rfl, p, _, rfl, .inl (SqL.of hp), _, _, rfl, rfl, _, rfl, ifd (fun c3 => ?_) (fun c3 => ?_)⟩
    · rw [List.getElem?_eq_none (by omega)] at k1
      exact ⟨6, rfl, fun z nz => k1.refS S W a s1 nz⟩
    · have hi : g.top + r < (Ue07.allRows g).length := by omega
      have hgi := List.getElem?_eq_getElem hi
      have hmem := mem_tag (rowsOf g) (l := Ue07.seen g.folds g.lines.length) (x := (Ue07.allRows g)[g.top + r]) (List.getElem_mem hi)
      have hml := (mem_seen.mp hmem.1).1
      rw [hgi] at k1
      generalize (Ue07.allRows g)[g.top + r] = x at hgi hmem hml k1
      obtain ⟨y, hy, b, rfl, db, hb⟩ := hA.get' hgi
      refine ⟨_, rfl, _, rfl, p, _, _, _, rfl, rfl, SqL.of hp, at_of (j := g.top + r) (by omega) hy, ?_⟩
      refine r_Row_line T hb ?_
      refine ⟨_, rfl, _, rfl, _, rfl, p, _, _, _, rfl, rfl, SqL.of hp, at_of (j := g.top + r) (by omega) hy, ?_⟩
      refine ⟨_, rfl, td1 ht1 ?_⟩
      refine ⟨s, dx, lk, L, F, ls, ts, g, b, x, c, rfl, S1, W.toWF0, ⟨db, hb⟩, hml, hmem.2, sz (by decide), fun z nz => ?_⟩
      exact k1.ret S W a (s1.trans (same_upd nz)) (s1.free nz) upd_same
def isPlace (g : Ue07.St) (n p : Nat) : Bool := decide (n < g.lines.length) && decide (p ≤ (Ue07.lineAt g n).length)
theorem isPlace_iff {n p : Nat} : isPlace g n p = false ↔ (g.lines.length ≤ n ∨ (Ue07.lineAt g n).length < p) := by
  unfold isPlace
  rw [Bool.and_eq_false_iff, decide_eq_false_iff_not, decide_eq_false_iff_not]
  omega
def sp_is_place (A : Ad) : Sp := fun vs H Q _ => ∃ (s dx lk L F : Addr) (ls ts : List V) (g : Ue07.St) (n p : Nat), vs = [.ref s, .int n, .int p] ∧ StAt A H s dx lk L F ls ts g ∧ Q (.bl (isPlace g n p)) H
theorem sc_is_place : FnScope ["state", "line", "place"] ["state", "line", "place"] (defScope s_is_place) := ⟨rfl, rfl, rfl, by decide +kernel, rfl, by decide +kernel, by decide +kernel⟩
-- slots of is_place: state 0, line 1, place 2
theorem ok_is_place (T : Tx K mg A) : FnOk P w K mg base CX0 1 A.f_is_place A.d_is_place ["state", "line", "place"] (sp_is_place A) := by
  refine T.t_is_place.F.ok sc_is_place (fun vs H Q E h => ?_) (fun cdv Ar outer s0 H vs Q E hr h => ?_)
  · obtain ⟨s, dx, lk, L, F, ls, ts, g, n, p, rfl, _⟩ := h
    rfl
  · obtain ⟨s, dx, lk, L, F, ls, ts, g, n, p, rfl, h⟩ := h
    refine ⟨_, (pss_one (ps_ret (pe_and (pe_cmpR op_lt (pv 1) (pe_callB call_len_seq (by rfl) T.z_len PySem.boot_len (pa_cons (pe_fld (pv 0) rfl) pa_nil)) (nomark _)) (pe_one (pe_cmpR op_le (pv 2) (pe_callB call_len_seq (by rfl) T.z_len PySem.boot_len (pa_cons (pe_ix ix_list (pe_fld (pv 0) rfl) (pv 1) (fun _ _ => rfl)) pa_nil)) (nomark _)))))), ?_⟩
    dsimp only [tRet, tRetN, tChain, tOp, tUn, tC, tVar, tSeq, tIfS, tAsg, gName, tTest, tB, tAnd, tOr, tNot, tAndV, tOrV, tNotV, tFld_eq, sFld_eq, sFldAug, L2.rAdd, L2.rSub, tCons, tNil, tLst, tTup, tCall, tMake, tCB, tCKw, tBM, tSl, tPart, tNoPart, tDrop, tNext, tBreak, iList, iRng1, iEnum, gTup, gCons, gNil, tAug, ipI, rI0, rI, rU, cxOf, Cx.nox, Cx.wish, L2.start, List.map, List.length, List.replicate, List.append]
    obtain ⟨S, q⟩ := h
    have hls := S.lA.len
    refine ⟨_, rfl, _, rfl, r_State_lines T S.o ?_⟩
    refine ⟨L, _, rfl, .inl (SqL.of S.l), _, _, rfl, rfl, _, rfl, ifd (fun c1 => ?_) (fun c1 => ?_)⟩
    · have hlt : n < g.lines.length := by omega
      obtain ⟨b, hb1, hb2⟩ := S.line_at hlt
      refine ⟨_, rfl, _, rfl, r_State_lines T S.o ?_⟩
      refine ⟨_, rfl, L, _, _, _, rfl, rfl, SqL.of S.l, atI_nat hb1, ?_⟩
      refine ⟨b, _, rfl, .inl (SqL.of hb2), _, _, rfl, rfl, ?_⟩
      have e : isPlace g n p = decide ((p : Int) ≤ ((nV (Ue07.lineAt g n)).length : Int)) := by
        unfold isPlace
        rw [decide_eq_true hlt, Bool.true_and, nV_len]
        exact decide_eq_decide.mpr (by omega)
      rw [← e]
      exact q
    · have e : isPlace g n p = false := isPlace_iff.mpr (.inl (by omega))
      rw [← e]
      exact q
theorem sc_call_where : FnScope ["state", "told", "answer"] ["state", "told"] (defScope s_call_where) := ⟨rfl, rfl, rfl, by decide +kernel, rfl, by decide +kernel, by decide +kernel⟩
-- slots of call_where: state 0, told 1, answer 2
theorem ok_call_where (T : Tx K mg A) : FnOk P w K mg base CX0 6 A.f_call_where A.d_call_where ["state", "told"] (spCall A 16) := by
  refine T.t_call_where.F.ok sc_call_where (fun vs H Q E h => ?_) (fun cdv Ar outer s0 H vs Q E hr h => ?_)
  · obtain ⟨s, dx, lk, L, F, ls, ts, g, t, av, ns, x, rfl, _⟩ := h
    rfl
  · obtain ⟨s, dx, lk, L, F, ls, ts, g, t, av, ns, x, rfl, h⟩ := h
    refine ⟨_, (pss_cons (ps_if (pt_not (pt_val (pe_call (ok_is_place T) (hr.mono (by decide)) (by rfl) T.t_is_place.g T.t_is_place.F.kp T.t_is_place.b .nil pass0 (pa_cons (pv 0) (pa_cons (pe_ix ix_list (pv 1) (pe_int) (fun _ _ => rfl)) (pa_cons (pe_ix ix_list (pv 1) (pe_int) (fun _ _ => rfl)) pa_nil)))))) (pss_one (ps_ret (pe_call (ok_refused T) (hr.mono (by decide)) (by rfl) T.t_refused.g T.t_refused.F.kp T.t_refused.b .nil pass0 (pa_cons (pe_gi rfl T.v_WRONG) pa_nil)))) pss_nil)
      (pss_cons (ps_if (pt_val (pe_call (ok_is_hidden T) (hr.mono (by decide)) (by rfl) T.t_is_hidden.g T.t_is_hidden.F.kp T.t_is_hidden.b .nil pass0 (pa_cons (pe_fld (pv 0) rfl) (pa_cons (pe_ix ix_list (pv 1) (pe_int) (fun _ _ => rfl)) pa_nil)))) (pss_one (ps_ret (pe_call (ok_refused T) (hr.mono (by decide)) (by rfl) T.t_refused.g T.t_refused.F.kp T.t_refused.b .nil pass0 (pa_cons (pe_gi rfl T.v_MISSING) pa_nil)))) pss_nil)
      (pss_cons (ps_set (i := 2) sc_call_where.nd rfl (.inl rfl) (pe_call (ok_place_answer T) (hr.mono (by decide)) (by rfl) T.t_place_answer.g T.t_place_answer.F.kp T.t_place_answer.b .nil pass0 (pa_cons (pv 0) (pa_cons (pe_call (ok_seen_rows T) (hr.mono (by decide)) (by rfl) T.t_seen_rows.g T.t_seen_rows.F.kp T.t_seen_rows.b .nil pass0 (pa_cons (pv 0) pa_nil)) (pa_cons (pe_ix ix_list (pv 1) (pe_int) (fun _ _ => rfl)) (pa_cons (pe_ix ix_list (pv 1) (pe_int) (fun _ _ => rfl)) pa_nil))))))
      (pss_cons (ps_if (pt_not (pt_chain op_le op_lt (pe_int) (pe_ix ix_list (pv 2) (pe_int) (fun _ _ => rfl)) (pe_fld (pv 0) rfl))) (pss_one (ps_ret (pe_call (ok_refused T) (hr.mono (by decide)) (by rfl) T.t_refused.g T.t_refused.F.kp T.t_refused.b .nil pass0 (pa_cons (pe_gi rfl T.v_OUTSIDE) pa_nil)))) pss_nil)
      (pss_one (ps_ret (pv 2))))))), ?_⟩
    dsimp only [tRet, tRetN, tChain, tOp, tUn, tC, tVar, tSeq, tIfS, tAsg, gName, tTest, tB, tAnd, tOr, tNot, tAndV, tOrV, tNotV, tFld_eq, sFld_eq, sFldAug, L2.rAdd, L2.rSub, tCons, tNil, tLst, tTup, tCall, tMake, tCB, tCKw, tBM, tSl, tPart, tNoPart, tDrop, tNext, tBreak, iList, iRng1, iEnum, gTup, gCons, gNil, tAug, ipI, rI0, rI, rU, cxOf, Cx.nox, Cx.wish, L2.start, List.map, List.length, List.replicate, List.append]
    obtain ⟨S, W, ht, hn, hc, hav, a, k⟩ := h
    obtain ⟨n, pl, rfl, rfl⟩ := in16 hc
    refine ⟨_, rfl, _, rfl, td0 ht ?_⟩
    refine ⟨_, rfl, td1 ht ?_⟩
    refine ⟨s, dx, lk, L, F, ls, ts, g, n, pl, rfl, S, _, rfl, ?_⟩
    cases e0 : isPlace g n pl with
    | false =>
      exact iteT ⟨1, rfl, fun p np => (k.to (r := (g, [-1])) (congrArg (fun z => (g, z)) (if_pos (isPlace_iff.mp e0)))).ref S W a np⟩
    | true =>
      have hno : ¬ (g.lines.length ≤ n ∨ (Ue07.lineAt g n).length < pl) := fun h => by rw [isPlace_iff.mpr h] at e0; cases e0
      have k1 : Fin A H s dx F av g (if Ue07.hidden g.folds n = true then [-6] else
          if rowIx g n pl < g.top ∨ g.top + g.high ≤ rowIx g n pl then [-7] else Ue07.ints [rowIx g n pl - g.top, Ue07.colAt g.look (Ue07.lineAt g n) pl]) Q := k.to (r := (g, _)) (congrArg (fun z => (g, z)) (if_neg hno))
      refine iteF ?_
      refine ⟨_, rfl, r_State_folds T S.o ?_⟩
      refine ⟨_, rfl, td0 ht ?_⟩
      refine ⟨F, ts, g.folds, n, rfl, S.f, S.fA, _, rfl, ?_⟩
      cases e1 : Ue07.hidden g.folds n with
      | true =>
        rw [e1, if_pos rfl] at k1
        exact iteT ⟨6, rfl, fun p np => k1.ref S W a np⟩
      | false =>
        rw [e1, if_neg (by decide)] at k1
        refine iteF ?_
        refine ⟨_, rfl, _, rfl, s, dx, lk, L, F, ls, ts, g, rfl, S, W.toWF0, fun H1 p xs s1 np hp hA => ?_⟩
        have S1 := S.same s1
        have ht1 := s1 _ _ ht
        refine ⟨_, rfl, td0 ht1 ?_⟩
        refine ⟨_, rfl, td1 ht1 ?_⟩
        refine ⟨s, dx, lk, L, F, ls, ts, g, p, xs, n, pl, rfl, S1, W.toWF0, hp, hA, mem_seen.mpr ⟨by omega, e1⟩, fun H2 z s2 nz hz => ?_⟩
        have S2 := S1.same s2
        have s02 := s1.trans s2
        have R7 : rowIx g n pl < g.top ∨ g.top + g.high ≤ rowIx g n pl → sp_refused [.int 7] H2 Q E0 := fun e => by
          rw [if_pos e] at k1
          exact ⟨7, rfl, fun y ny => k1.refS S W a s02 ny⟩
        refine ⟨_, rfl, z, _, _, _, rfl, rfl, SqL.of hz, atI_nat (j := 0) rfl, ?_⟩
        refine ⟨_, _, rfl, rfl, _, rfl, ifd (fun c1 => ?_) (fun c1 => ⟨_, rfl, iteT (R7 (by omega))⟩)⟩
        refine ⟨_, rfl, r_State_high T S2.o ?_⟩
        refine ⟨_, _, rfl, rfl, _, rfl, ifnd (fun c2 => R7 (by omega)) (fun c2 => ?_)⟩
        rw [if_neg (show ¬ (rowIx g n pl < g.top ∨ g.top + g.high ≤ rowIx g n pl) by omega)] at k1
        refine ⟨_, rfl, k1.ret S W a s02 (s1.free nz) ?_⟩
        rw [hz]
        have e : ((rowIx g n pl : Int) - (g.top : Int)) = ((rowIx g n pl - g.top : Nat) : Int) := by omega
        rw [e]
        rfl
def sp_go_rows_on (A : Ad) : Sp := fun vs H Q _ => ∃ (s dx lk L F : Addr) (ls ts : List V) (g : Ue07.St) (c : Int) (i : Nat), vs = [.ref s, .int c] ∧ StAt A H s dx lk L F ls ts g ∧ WF0 g ∧ i < Ue07.rowCount g ∧
  (i : Int) = (if ((Ue07.rowCount g : Int) - 1) < (if (0 : Int) > ((Ue07.pointRow g : Int) + c) then 0 else ((Ue07.pointRow g : Int) + c)) then ((Ue07.rowCount g : Int) - 1) else (if (0 : Int) > ((Ue07.pointRow g : Int) + c) then 0 else ((Ue07.pointRow g : Int) + c))) ∧
  doneP A H s dx lk L F ls ts (Ue07.scrolled (putAt g i)) Q
theorem sc_go_rows_on : FnScope ["state", "count", "rows", "number"] ["state", "count"] (defScope s_go_rows_on) := ⟨rfl, rfl, rfl, by decide +kernel, rfl, by decide +kernel, by decide +kernel⟩
-- slots of go_rows_on: state 0, count 1, rows 2, number 3
theorem ok_go_rows_on (T : Tx K mg A) : FnOk P w K mg base CX0 7 A.f_go_rows_on A.d_go_rows_on ["state", "count"] (sp_go_rows_on A) := by
  refine T.t_go_rows_on.F.ok sc_go_rows_on (fun vs H Q E h => ?_) (fun cdv Ar outer s0 H vs Q E hr h => ?_)
  · obtain ⟨s, dx, lk, L, F, ls, ts, g, c, i, rfl, _⟩ := h
    rfl
  · obtain ⟨s, dx, lk, L, F, ls, ts, g, c, i, rfl, h⟩ := h
    refine ⟨_, (pss_cons (ps_set (i := 2) sc_go_rows_on.nd rfl (.inl rfl) (pe_call (ok_seen_rows T) (hr.mono (by decide)) (by rfl) T.t_seen_rows.g T.t_seen_rows.F.kp T.t_seen_rows.b .nil pass0 (pa_cons (pv 0) pa_nil)))
      (pss_cons (ps_set (i := 3) sc_go_rows_on.nd rfl (.inl rfl) (pe_op op_add (pe_call (ok_row_number T) (hr.mono (by decide)) (by rfl) T.t_row_number.g T.t_row_number.F.kp T.t_row_number.b .nil pass0 (pa_cons (pv 2) (pa_cons (pe_fld (pv 0) rfl) (pa_cons (pe_fld (pv 0) rfl) pa_nil)))) (pv 1)))
      (pss_cons (ps_expr (pe_call (ok_put_into T) (hr.mono (by decide)) (by rfl) T.t_put_into.g T.t_put_into.F.kp T.t_put_into.b .nil pass0 (pa_cons (pv 0) (pa_cons (pv 2) (pa_cons (pe_callB (call_min2 rfl) (by rfl) T.z_min (by decide +kernel) (pa_cons (pe_callB (call_max2 rfl) (by rfl) T.z_max (by decide +kernel) (pa_cons (pv 3) (pa_cons (pe_int) pa_nil))) (pa_cons (pe_op op_sub (pe_callB call_len_seq (by rfl) T.z_len PySem.boot_len (pa_cons (pv 2) pa_nil)) (pe_int)) pa_nil))) pa_nil)))))
      (pss_one (ps_ret (pe_call (ok_scrolled T) (hr.mono (by decide)) (by rfl) T.t_scrolled.g T.t_scrolled.F.kp T.t_scrolled.b .nil pass0 (pa_cons (pv 0) pa_nil))))))), ?_⟩
    dsimp only [tRet, tRetN, tChain, tOp, tUn, tC, tVar, tSeq, tIfS, tAsg, gName, tTest, tB, tAnd, tOr, tNot, tAndV, tOrV, tNotV, tFld_eq, sFld_eq, sFldAug, L2.rAdd, L2.rSub, tCons, tNil, tLst, tTup, tCall, tMake, tCB, tCKw, tBM, tSl, tPart, tNoPart, tDrop, tNext, tBreak, iList, iRng1, iEnum, gTup, gCons, gNil, tAug, ipI, rI0, rI, rU, cxOf, Cx.nox, Cx.wish, L2.start, List.map, List.length, List.replicate, List.append]
    obtain ⟨S, W, hi, ei, q⟩ := h
    refine ⟨_, rfl, s, dx, lk, L, F, ls, ts, g, rfl, S, W, fun H1 p xs s1 np hp hA => ?_⟩
    have S1 := S.same s1
    have hxl : xs.length = Ue07.rowCount g := hA.len
    refine ⟨_, rfl, _, rfl, r_State_line T S1.o ?_⟩
    refine ⟨_, rfl, r_State_place T S1.o ?_⟩
    refine ⟨p, g.line, g.place, xs, _, rfl, hp, hA, fun H2 s2 => ?_⟩
    rw [W.point.1]
    have S2 := S1.same s2
    have hp2 := s2 _ _ hp
    refine ⟨_, rfl, _, _, rfl, rfl, ?_⟩
    refine ⟨_, rfl, _, rfl, _, rfl, _, _, rfl, _, rfl, p, _, rfl, .inl (SqL.of hp2), ?_⟩
    rw [hxl]
    refine ⟨_, _, rfl, rfl, _, _, rfl, ?_⟩
    rw [← ei]
    refine ⟨s, dx, lk, L, F, ls, ts, g, p, xs, i, rfl, S2, W, hp2, rws_same s2 hA, hi, fun H3 b3 S3 => ?_⟩
    refine ⟨_, rfl, s, dx, lk, L, F, ls, ts, _, rfl, S3, (W.put hi).1, fun H4 z b4 S4 nz hz => ?_⟩
    have b03 : But s H H3 := (same_but (s1.trans s2) s).trans b3
    exact q H4 z (b03.trans b4) S4 (b03.free (by rw [S3.o]; intro z; cases z) nz) hz
theorem sc_call_up : FnScope ["state", "told"] ["state", "told"] (defScope s_call_up) := ⟨rfl, rfl, rfl, by decide +kernel, rfl, by decide +kernel, by decide +kernel⟩
-- slots of call_up: state 0, told 1
theorem ok_call_up (T : Tx K mg A) : FnOk P w K mg base CX0 8 A.f_call_up A.d_call_up ["state", "told"] (spCall A 7) := by
  refine T.t_call_up.F.ok sc_call_up (fun vs H Q E h => ?_) (fun cdv Ar outer s0 H vs Q E hr h => ?_)
  · obtain ⟨s, dx, lk, L, F, ls, ts, g, t, av, ns, x, rfl, _⟩ := h
    rfl
  · obtain ⟨s, dx, lk, L, F, ls, ts, g, t, av, ns, x, rfl, h⟩ := h
    refine ⟨_, (pss_cons (ps_if (pt_cmpR op_gt (pe_ix ix_list (pv 1) (pe_int) (fun _ _ => rfl)) (pe_gi rfl T.v_MOST_STEPS) (nomark _)) (pss_one (ps_ret (pe_call (ok_refused T) (hr.mono (by decide)) (by rfl) T.t_refused.g T.t_refused.F.kp T.t_refused.b .nil pass0 (pa_cons (pe_gi rfl T.v_WRONG) pa_nil)))) pss_nil)
      (pss_one (ps_ret (pe_call (ok_go_rows_on T) (hr.mono (by decide)) (by rfl) T.t_go_rows_on.g T.t_go_rows_on.F.kp T.t_go_rows_on.b .nil pass0 (pa_cons (pv 0) (pa_cons (pe_un un_neg (pe_ix ix_list (pv 1) (pe_int) (fun _ _ => rfl))) pa_nil)))))), ?_⟩
    dsimp only [tRet, tRetN, tChain, tOp, tUn, tC, tVar, tSeq, tIfS, tAsg, gName, tTest, tB, tAnd, tOr, tNot, tAndV, tOrV, tNotV, tFld_eq, sFld_eq, sFldAug, L2.rAdd, L2.rSub, tCons, tNil, tLst, tTup, tCall, tMake, tCB, tCKw, tBM, tSl, tPart, tNoPart, tDrop, tNext, tBreak, iList, iRng1, iEnum, gTup, gCons, gNil, tAug, ipI, rI0, rI, rU, cxOf, Cx.nox, Cx.wish, L2.start, List.map, List.length, List.replicate, List.append]
    obtain ⟨S, W, ht, hn, hc, hav, a, k⟩ := h
    obtain ⟨n, rfl, rfl⟩ := in7 hc
    refine ⟨_, rfl, td0 ht ?_⟩
    refine ⟨_, _, rfl, rfl, _, rfl, ifd (fun c1 => ?_) (fun c1 => ?_)⟩
    · exact ⟨1, rfl, fun p np => (k.to (r := (g, [-1])) (if_pos (show 100 < n by omega))).ref S W a np⟩
    have hp : Ue07.pointRow g < Ue07.rowCount g := W.toWF0.point_lt
    have hi : Ue07.pointRow g - n < Ue07.rowCount g := by omega
    have e : Ue07.step g (.up n) = Ue07.answers (Ue07.scrolled (putAt g (Ue07.pointRow g - n))) := by
      show (if 100 < n then (g, [-1]) else Ue07.answers (Ue07.toRow g (Ue07.pointRow g - n))) = _
      rw [if_neg (by omega), toRow_eq hi]
    refine ⟨_, rfl, _, rfl, td0 ht ?_⟩
    refine ⟨_, rfl, s, dx, lk, L, F, ls, ts, g, _, Ue07.pointRow g - n, rfl, S, W.toWF0, hi, ?_, ?_⟩
    · split <;> split <;> omega
    · exact (k.to e).but (up_wf W.toWF0 hi) a (But.refl _ _) S.o
theorem sc_call_down : FnScope ["state", "told"] ["state", "told"] (defScope s_call_down) := ⟨rfl, rfl, rfl, by decide +kernel, rfl, by decide +kernel, by decide +kernel⟩
-- slots of call_down: state 0, told 1
theorem ok_call_down (T : Tx K mg A) : FnOk P w K mg base CX0 8 A.f_call_down A.d_call_down ["state", "told"] (spCall A 8) := by
  refine T.t_call_down.F.ok sc_call_down (fun vs H Q E h => ?_) (fun cdv Ar outer s0 H vs Q E hr h => ?_)
  · obtain ⟨s, dx, lk, L, F, ls, ts, g, t, av, ns, x, rfl, _⟩ := h
    rfl
  · obtain ⟨s, dx, lk, L, F, ls, ts, g, t, av, ns, x, rfl, h⟩ := h
    refine ⟨_, (pss_cons (ps_if (pt_cmpR op_gt (pe_ix ix_list (pv 1) (pe_int) (fun _ _ => rfl)) (pe_gi rfl T.v_MOST_STEPS) (nomark _)) (pss_one (ps_ret (pe_call (ok_refused T) (hr.mono (by decide)) (by rfl) T.t_refused.g T.t_refused.F.kp T.t_refused.b .nil pass0 (pa_cons (pe_gi rfl T.v_WRONG) pa_nil)))) pss_nil)
      (pss_one (ps_ret (pe_call (ok_go_rows_on T) (hr.mono (by decide)) (by rfl) T.t_go_rows_on.g T.t_go_rows_on.F.kp T.t_go_rows_on.b .nil pass0 (pa_cons (pv 0) (pa_cons (pe_ix ix_list (pv 1) (pe_int) (fun _ _ => rfl)) pa_nil)))))), ?_⟩
    dsimp only [tRet, tRetN, tChain, tOp, tUn, tC, tVar, tSeq, tIfS, tAsg, gName, tTest, tB, tAnd, tOr, tNot, tAndV, tOrV, tNotV, tFld_eq, sFld_eq, sFldAug, L2.rAdd, L2.rSub, tCons, tNil, tLst, tTup, tCall, tMake, tCB, tCKw, tBM, tSl, tPart, tNoPart, tDrop, tNext, tBreak, iList, iRng1, iEnum, gTup, gCons, gNil, tAug, ipI, rI0, rI, rU, cxOf, Cx.nox, Cx.wish, L2.start, List.map, List.length, List.replicate, List.append]
    obtain ⟨S, W, ht, hn, hc, hav, a, k⟩ := h
    obtain ⟨n, rfl, rfl⟩ := in8 hc
    refine ⟨_, rfl, td0 ht ?_⟩
    refine ⟨_, _, rfl, rfl, _, rfl, ifd (fun c1 => ?_) (fun c1 => ?_)⟩
    · exact ⟨1, rfl, fun p np => (k.to (r := (g, [-1])) (if_pos (show 100 < n by omega))).ref S W a np⟩
    have hp : Ue07.pointRow g < Ue07.rowCount g := W.toWF0.point_lt
    have hi : min (Ue07.pointRow g + n) (Ue07.rowCount g - 1) < Ue07.rowCount g := by omega
    have e : Ue07.step g (.down n) = Ue07.answers (Ue07.scrolled (putAt g (min (Ue07.pointRow g + n) (Ue07.rowCount g - 1)))) := by
      show (if 100 < n then (g, [-1]) else Ue07.answers (Ue07.toRow g (min (Ue07.pointRow g + n) (Ue07.rowCount g - 1)))) = _
      rw [if_neg (by omega), toRow_eq hi]
    refine ⟨_, rfl, _, rfl, td0 ht ?_⟩
    refine ⟨s, dx, lk, L, F, ls, ts, g, _, min (Ue07.pointRow g + n) (Ue07.rowCount g - 1), rfl, S, W.toWF0, hi, ?_, ?_⟩
    · split <;> split <;> omega
    · exact (k.to e).but (up_wf W.toWF0 hi) a (But.refl _ _) S.o
def sp_scroll_top (A : Ad) : Sp := fun vs H Q _ => ∃ (s dx lk L F : Addr) (ls ts : List V) (g : Ue07.St) (p : Addr) (xs : List V) (c : Bool) (n : Nat), vs = [.ref s, .ref p, .int (b01 c), .int n] ∧ StAt A H s dx lk L F ls ts g ∧ H p = some (.lst xs) ∧ xs.length = Ue07.rowCount g ∧ Q (.int (sTop g c n : Nat)) H
theorem sc_scroll_top : FnScope ["state", "rows", "back", "count"] ["state", "rows", "back", "count"] (defScope s_scroll_top) := ⟨rfl, rfl, rfl, by decide +kernel, rfl, by decide +kernel, by decide +kernel⟩
-- slots of scroll_top: state 0, rows 1, back 2, count 3
theorem ok_scroll_top (T : Tx K mg A) : FnOk P w K mg base CX0 2 A.f_scroll_top A.d_scroll_top ["state", "rows", "back", "count"] (sp_scroll_top A) := by
  refine T.t_scroll_top.F.ok sc_scroll_top (fun vs H Q E h => ?_) (fun cdv Ar outer s0 H vs Q E hr h => ?_)
  · obtain ⟨s, dx, lk, L, F, ls, ts, g, p, xs, c, n, rfl, _⟩ := h
    rfl
  · obtain ⟨s, dx, lk, L, F, ls, ts, g, p, xs, c, n, rfl, h⟩ := h
    refine ⟨_, (pss_cons (ps_if (pt_cmpR op_eq (pv 2) (pe_int) (nomark _)) (pss_one (ps_ret (pe_callB (call_max2 rfl) (by rfl) T.z_max (by decide +kernel) (pa_cons (pe_int) (pa_cons (pe_op op_sub (pe_fld (pv 0) rfl) (pv 3)) pa_nil))))) pss_nil)
      (pss_one (ps_ret (pe_callB (call_min2 rfl) (by rfl) T.z_min (by decide +kernel) (pa_cons (pe_call (ok_last_top T) (hr.mono (by decide)) (by rfl) T.t_last_top.g T.t_last_top.F.kp T.t_last_top.b .nil pass0 (pa_cons (pv 0) (pa_cons (pv 1) pa_nil))) (pa_cons (pe_op op_add (pe_fld (pv 0) rfl) (pv 3)) pa_nil)))))), ?_⟩
    dsimp only [tRet, tRetN, tChain, tOp, tUn, tC, tVar, tSeq, tIfS, tAsg, gName, tTest, tB, tAnd, tOr, tNot, tAndV, tOrV, tNotV, tFld_eq, sFld_eq, sFldAug, L2.rAdd, L2.rSub, tCons, tNil, tLst, tTup, tCall, tMake, tCB, tCKw, tBM, tSl, tPart, tNoPart, tDrop, tNext, tBreak, iList, iRng1, iEnum, gTup, gCons, gNil, tAug, ipI, rI0, rI, rU, cxOf, Cx.nox, Cx.wish, L2.start, List.map, List.length, List.replicate, List.append]
    obtain ⟨S, hp, hxl, q⟩ := h
    refine ⟨_, rfl, rfl, _, rfl, ?_⟩
    unfold sTop at q
    cases c with
    | true =>
      rw [if_pos rfl] at q
      refine ifv (fun _ => ?_) (fun e => absurd rfl e)
      refine ⟨_, rfl, r_State_top T S.o ?_⟩
      refine ⟨_, rfl, _, _, rfl, rfl, _, _, rfl, ?_⟩
      have e : (if ((g.top : Int) - (n : Int)) > 0 then ((g.top : Int) - (n : Int)) else 0) = ((g.top - n : Nat) : Int) := by
        split <;> omega
      rw [e]
      exact q
    | false =>
      rw [if_neg (by decide)] at q
      refine ifv (fun e => absurd e (by decide)) (fun _ => ?_)
      refine ⟨_, rfl, _, rfl, s, dx, lk, L, F, ls, ts, g, p, xs, rfl, S, hp, ?_⟩
      refine ⟨_, rfl, r_State_top T S.o ?_⟩
      refine ⟨_, rfl, _, _, rfl, rfl, _, _, rfl, ?_⟩
      rw [hxl]
      have e : (if ((g.top : Int) + (n : Int)) < ((Ue07.rowCount g - g.high : Nat) : Int) then ((g.top : Int) + (n : Int)) else ((Ue07.rowCount g - g.high : Nat) : Int)) = ((min (g.top + n) (Ue07.rowCount g - g.high) : Nat) : Int) := by
        split <;> omega
      rw [e]
      exact q
def sp_first_free_row (A : Ad) : Sp := fun vs H Q _ => ∃ (s dx lk L F : Addr) (ls ts : List V) (g : Ue07.St), vs = [.ref s] ∧ StAt A H s dx lk L F ls ts g ∧ 1 ≤ g.high ∧ Q (.int (sLow g g.top : Nat)) H
theorem sc_first_free_row : FnScope ["state"] ["state"] (defScope s_first_free_row) := ⟨rfl, rfl, rfl, by decide +kernel, rfl, by decide +kernel, by decide +kernel⟩
-- slots of first_free_row: state 0
theorem ok_first_free_row (T : Tx K mg A) : FnOk P w K mg base CX0 2 A.f_first_free_row A.d_first_free_row ["state"] (sp_first_free_row A) := by
  refine T.t_first_free_row.F.ok sc_first_free_row (fun vs H Q E h => ?_) (fun cdv Ar outer s0 H vs Q E hr h => ?_)
  · obtain ⟨s, dx, lk, L, F, ls, ts, g, rfl, _⟩ := h
    rfl
  · obtain ⟨s, dx, lk, L, F, ls, ts, g, rfl, h⟩ := h
    refine ⟨_, (pss_cons (ps_if (pt_cmpR op_eq (pe_fld (pv 0) rfl) (pe_int) (nomark _)) (pss_one (ps_ret (pe_int))) pss_nil)
      (pss_one (ps_ret (pe_op op_add (pe_fld (pv 0) rfl) (pe_call (ok_real_margin T) (hr.mono (by decide)) (by rfl) T.t_real_margin.g T.t_real_margin.F.kp T.t_real_margin.b .nil pass0 (pa_cons (pv 0) pa_nil)))))), ?_⟩
    dsimp only [tRet, tRetN, tChain, tOp, tUn, tC, tVar, tSeq, tIfS, tAsg, gName, tTest, tB, tAnd, tOr, tNot, tAndV, tOrV, tNotV, tFld_eq, sFld_eq, sFldAug, L2.rAdd, L2.rSub, tCons, tNil, tLst, tTup, tCall, tMake, tCB, tCKw, tBM, tSl, tPart, tNoPart, tDrop, tNext, tBreak, iList, iRng1, iEnum, gTup, gCons, gNil, tAug, ipI, rI0, rI, rU, cxOf, Cx.nox, Cx.wish, L2.start, List.map, List.length, List.replicate, List.append]
    obtain ⟨S, h1, q⟩ := h
    unfold sLow at q
    refine ⟨_, rfl, r_State_top T S.o ?_⟩
    refine ⟨rfl, _, rfl, ifv (fun c => ?_) (fun c => ?_)⟩
    · rw [if_pos (by omega)] at q
      exact q
    · rw [if_neg (by omega)] at q
      refine ⟨_, rfl, r_State_top T S.o ?_⟩
      exact ⟨_, rfl, s, dx, lk, L, F, ls, ts, g, rfl, S, h1, _, _, rfl, rfl, q⟩
def sp_last_free_row (A : Ad) : Sp := fun vs H Q _ => ∃ (s dx lk L F : Addr) (ls ts : List V) (g : Ue07.St) (p : Addr) (xs : List V), vs = [.ref s, .ref p] ∧ StAt A H s dx lk L F ls ts g ∧ 2 * FV.margin g + 1 ≤ g.high ∧ H p = some (.lst xs) ∧ xs.length = Ue07.rowCount g ∧ 0 < Ue07.rowCount g ∧ Q (.int (sUp g g.top : Nat)) H
theorem sc_last_free_row : FnScope ["state", "rows"] ["state", "rows"] (defScope s_last_free_row) := ⟨rfl, rfl, rfl, by decide +kernel, rfl, by decide +kernel, by decide +kernel⟩
-- slots of last_free_row: state 0, rows 1
theorem ok_last_free_row (T : Tx K mg A) : FnOk P w K mg base CX0 2 A.f_last_free_row A.d_last_free_row ["state", "rows"] (sp_last_free_row A) := by
  refine T.t_last_free_row.F.ok sc_last_free_row (fun vs H Q E h => ?_) (fun cdv Ar outer s0 H vs Q E hr h => ?_)
  · obtain ⟨s, dx, lk, L, F, ls, ts, g, p, xs, rfl, _⟩ := h
    rfl
  · obtain ⟨s, dx, lk, L, F, ls, ts, g, p, xs, rfl, h⟩ := h
    refine ⟨_, (pss_cons (ps_if (pt_cmpR op_ge (pe_op op_add (pe_fld (pv 0) rfl) (pe_fld (pv 0) rfl)) (pe_callB call_len_seq (by rfl) T.z_len PySem.boot_len (pa_cons (pv 1) pa_nil)) (nomark _)) (pss_one (ps_ret (pe_op op_sub (pe_callB call_len_seq (by rfl) T.z_len PySem.boot_len (pa_cons (pv 1) pa_nil)) (pe_int)))) pss_nil)
      (pss_one (ps_ret (pe_op op_sub (pe_op op_sub (pe_op op_add (pe_fld (pv 0) rfl) (pe_fld (pv 0) rfl)) (pe_int)) (pe_call (ok_real_margin T) (hr.mono (by decide)) (by rfl) T.t_real_margin.g T.t_real_margin.F.kp T.t_real_margin.b .nil pass0 (pa_cons (pv 0) pa_nil)))))), ?_⟩
    dsimp only [tRet, tRetN, tChain, tOp, tUn, tC, tVar, tSeq, tIfS, tAsg, gName, tTest, tB, tAnd, tOr, tNot, tAndV, tOrV, tNotV, tFld_eq, sFld_eq, sFldAug, L2.rAdd, L2.rSub, tCons, tNil, tLst, tTup, tCall, tMake, tCB, tCKw, tBM, tSl, tPart, tNoPart, tDrop, tNext, tBreak, iList, iRng1, iEnum, gTup, gCons, gNil, tAug, ipI, rI0, rI, rU, cxOf, Cx.nox, Cx.wish, L2.start, List.map, List.length, List.replicate, List.append]
    obtain ⟨S, h1, hp, hxl, h0, q⟩ := h
    unfold sUp at q
    refine ⟨_, rfl, r_State_top T S.o ?_⟩
    refine ⟨_, rfl, r_State_high T S.o ?_⟩
    refine ⟨_, _, rfl, rfl, _, rfl, p, _, rfl, .inl (SqL.of hp), ?_⟩
    rw [hxl]
    refine ⟨_, _, rfl, rfl, _, rfl, ifd (fun c => ?_) (fun c => ?_)⟩
    · rw [if_pos (by omega)] at q
      refine ⟨_, rfl, p, _, rfl, .inl (SqL.of hp), ?_⟩
      rw [hxl]
      refine ⟨_, _, rfl, rfl, ?_⟩
      rw [show (Ue07.rowCount g : Int) - 1 = ((Ue07.rowCount g - 1 : Nat) : Int) by omega]
      exact q
    · rw [if_neg (by omega)] at q
      refine ⟨_, rfl, r_State_top T S.o ?_⟩
      refine ⟨_, rfl, r_State_high T S.o ?_⟩
      refine ⟨_, _, rfl, rfl, _, _, rfl, rfl, _, rfl, s, dx, lk, L, F, ls, ts, g, rfl, S, by omega, _, _, rfl, rfl, ?_⟩
      rw [show (g.top : Int) + (g.high : Int) - 1 - (FV.margin g : Int) = ((g.top + g.high - 1 - FV.margin g : Nat) : Int) by omega]
      exact q
theorem sc_call_scroll : FnScope ["state", "told", "rows", "number", "free"] ["state", "told"] (defScope s_call_scroll) := ⟨rfl, rfl, rfl, by decide +kernel, rfl, by decide +kernel, by decide +kernel⟩
-- slots of call_scroll: state 0, told 1, rows 2, number 3, free 4
theorem ok_call_scroll (T : Tx K mg A) : FnOk P w K mg base CX0 6 A.f_call_scroll A.d_call_scroll ["state", "told"] (spCall A 11) := by
  refine T.t_call_scroll.F.ok sc_call_scroll (fun vs H Q E h => ?_) (fun cdv Ar outer s0 H vs Q E hr h => ?_)
  · obtain ⟨s, dx, lk, L, F, ls, ts, g, t, av, ns, x, rfl, _⟩ := h
    rfl
  · obtain ⟨s, dx, lk, L, F, ls, ts, g, t, av, ns, x, rfl, h⟩ := h
    refine ⟨_, (pss_cons (ps_if (pt_cmpR op_gt (pe_ix ix_list (pv 1) (pe_int) (fun _ _ => rfl)) (pe_gi rfl T.v_MOST_STEPS) (nomark _)) (pss_one (ps_ret (pe_call (ok_refused T) (hr.mono (by decide)) (by rfl) T.t_refused.g T.t_refused.F.kp T.t_refused.b .nil pass0 (pa_cons (pe_gi rfl T.v_WRONG) pa_nil)))) pss_nil)
      (pss_cons (ps_set (i := 2) sc_call_scroll.nd rfl (.inl rfl) (pe_call (ok_seen_rows T) (hr.mono (by decide)) (by rfl) T.t_seen_rows.g T.t_seen_rows.F.kp T.t_seen_rows.b .nil pass0 (pa_cons (pv 0) pa_nil)))
      (pss_cons (ps_fld (pv 0) (pe_call (ok_scroll_top T) (hr.mono (by decide)) (by rfl) T.t_scroll_top.g T.t_scroll_top.F.kp T.t_scroll_top.b .nil pass0 (pa_cons (pv 0) (pa_cons (pv 2) (pa_cons (pe_ix ix_list (pv 1) (pe_int) (fun _ _ => rfl)) (pa_cons (pe_ix ix_list (pv 1) (pe_int) (fun _ _ => rfl)) pa_nil))))) rfl)
      (pss_cons (ps_set (i := 3) sc_call_scroll.nd rfl (.inl rfl) (pe_call (ok_row_number T) (hr.mono (by decide)) (by rfl) T.t_row_number.g T.t_row_number.F.kp T.t_row_number.b .nil pass0 (pa_cons (pv 2) (pa_cons (pe_fld (pv 0) rfl) (pa_cons (pe_fld (pv 0) rfl) pa_nil)))))
      (pss_cons (ps_set (i := 4) sc_call_scroll.nd rfl (.inl rfl) (pe_callB (call_min2 rfl) (by rfl) T.z_min (by decide +kernel) (pa_cons (pe_callB (call_max2 rfl) (by rfl) T.z_max (by decide +kernel) (pa_cons (pv 3) (pa_cons (pe_call (ok_first_free_row T) (hr.mono (by decide)) (by rfl) T.t_first_free_row.g T.t_first_free_row.F.kp T.t_first_free_row.b .nil pass0 (pa_cons (pv 0) pa_nil)) pa_nil))) (pa_cons (pe_call (ok_last_free_row T) (hr.mono (by decide)) (by rfl) T.t_last_free_row.g T.t_last_free_row.F.kp T.t_last_free_row.b .nil pass0 (pa_cons (pv 0) (pa_cons (pv 2) pa_nil))) pa_nil))))
      (pss_cons (ps_if (pt_cmpR op_ne (pv 4) (pv 3) (nomark _)) (pss_one (ps_expr (pe_call (ok_put_into T) (hr.mono (by decide)) (by rfl) T.t_put_into.g T.t_put_into.F.kp T.t_put_into.b .nil pass0 (pa_cons (pv 0) (pa_cons (pv 2) (pa_cons (pv 4) pa_nil)))))) pss_nil)
      (pss_one (ps_ret (pe_call (ok_point_answer T) (hr.mono (by decide)) (by rfl) T.t_point_answer.g T.t_point_answer.F.kp T.t_point_answer.b .nil pass0 (pa_cons (pv 0) (pa_cons (pv 2) pa_nil))))))))))), ?_⟩
    dsimp only [tRet, tRetN, tChain, tOp, tUn, tC, tVar, tSeq, tIfS, tAsg, gName, tTest, tB, tAnd, tOr, tNot, tAndV, tOrV, tNotV, tFld_eq, sFld_eq, sFldAug, L2.rAdd, L2.rSub, tCons, tNil, tLst, tTup, tCall, tMake, tCB, tCKw, tBM, tSl, tPart, tNoPart, tDrop, tNext, tBreak, iList, iRng1, iEnum, gTup, gCons, gNil, tAug, ipI, rI0, rI, rU, cxOf, Cx.nox, Cx.wish, L2.start, List.map, List.length, List.replicate, List.append]
    obtain ⟨S, W, ht, hn, hc, hav, a, k⟩ := h
    obtain ⟨b0, n, c, rfl, rfl, e0⟩ := in11 hc
    refine ⟨_, rfl, td1 ht ?_⟩
    refine ⟨_, _, rfl, rfl, _, rfl, ifd (fun c1 => ?_) (fun c1 => ?_)⟩
    · exact ⟨1, rfl, fun p np => (k.to (r := (g, [-1])) (if_pos (show 100 < n by omega))).ref S W a np⟩
    have k1 := k.to (scroll_step W (c := c) (k := n) (by omega))
    have W1 := scroll_wf W (W.sTop_le c n)
    refine ⟨_, rfl, s, dx, lk, L, F, ls, ts, g, rfl, S, W.toWF0, fun H1 p xs s1 np hp hA => ?_⟩
    have S1 := S.same s1
    have ht1 := s1 _ _ ht
    have hxl : xs.length = Ue07.rowCount g := hA.len
    refine ⟨_, rfl, _, rfl, _, rfl, td0 ht1 ?_⟩
    rw [e0]
    refine ⟨_, rfl, td1 ht1 ?_⟩
    refine ⟨s, dx, lk, L, F, ls, ts, g, p, xs, c, n, rfl, S1, hp, hxl, ?_⟩
    have hT := W.sTop_le c n
    have hf := sFree_lt W (t := sTop g c n)
    generalize sTop g c n = tp at k1 W1 hT hf
    refine ⟨_, rfl, st_top T S1 fun H2 b2 S2 => ?_⟩
    have hp2 := S1.but_lst b2 hp
    have hA2 := S1.but_rows b2 hA
    have Wt : WF0 { g with top := tp } := W.toWF0.top tp
    refine ⟨_, rfl, _, rfl, r_State_line T S2.o ?_⟩
    refine ⟨_, rfl, r_State_place T S2.o ?_⟩
    refine ⟨p, g.line, g.place, xs, _, rfl, hp2, hA2, fun H3 s3 => ?_⟩
    rw [W.toWF0.point.1]
    have S3 := S2.same s3
    have hp3 := s3 _ _ hp2
    have hA3 := rws_same s3 hA2
    refine ⟨_, rfl, _, rfl, s, dx, lk, L, F, ls, ts, _, rfl, S3, W.h1, ?_⟩
    refine ⟨_, _, rfl, ?_⟩
    rw [max2]
    refine ⟨_, rfl, _, rfl, s, dx, lk, L, F, ls, ts, _, p, xs, rfl, S3, W.toWF0.margin_le, hp3, hxl, W.toWF0.count_pos, ?_⟩
    refine ⟨_, _, rfl, ?_⟩
    rw [min2]
    have b03 : But s H H3 := ((same_but s1 s).trans b2).trans (same_but s3 s)
    have efr : min (max (Ue07.pointRow g) (sLow { g with top := tp } tp)) (sUp { g with top := tp } tp) = sFree g tp := rfl
    have k2 : doneP A H s dx lk L F ls ts (sEnd g tp) Q := k1.but W1 a (But.refl _ _) S.o
    have fin : ∀ H4, But s H3 H4 → StAt A H4 s dx lk L F ls ts (sEnd g tp) → (Ue07.allRows (sEnd g tp) = Ue07.allRows g) → sp_point_answer A [.ref s, .ref p] H4 Q E0 := fun H4 b4 S4 ea =>
      ⟨s, dx, lk, L, F, ls, ts, _, p, xs, rfl, S4, W1.toWF0, W1.tr, S3.but_lst b4 hp3, by rw [ea]; exact S3.but_rows b4 hA3, fun H5 z s5 nz hz => k2 H5 z ((b03.trans b4).trans (same_but s5 s)) (S4.same s5) ((b03.trans b4).free (by rw [S4.o]; intro z; cases z) nz) hz⟩
    refine ⟨_, rfl, _, rfl, rfl, _, rfl, ifnd (fun c2 => ?_) (fun c2 => ?_)⟩
    · have hne : ¬ sFree g tp = Ue07.pointRow g := fun e => c2 (congrArg (fun (z : Nat) => V.int (z : Int)) e)
      have ee : sEnd g tp = putAt { g with top := tp } (sFree g tp) := if_neg hne
      refine ⟨_, rfl, _, rfl, _, rfl, s, dx, lk, L, F, ls, ts, _, p, xs, sFree g tp, rfl, S3, Wt, hp3, hA3, hf, fun H4 b4 S4 => ?_⟩
      refine ⟨_, rfl, _, rfl, fin H4 b4 (by rw [ee]; exact S4) ?_⟩
      rw [ee]
      unfold putAt
      split <;> rfl
    · have heq : sFree g tp = Ue07.pointRow g := Int.ofNat.inj (V.int.inj c2)
      have ee : sEnd g tp = { g with top := tp } := if_pos heq
      exact ⟨_, rfl, _, rfl, fin H3 (But.refl _ _) (by rw [ee]; exact S3) (by rw [ee]; rfl)⟩
end
end FV
namespace FV
open PySem PySem.Spec PyProof.Rows L2
section
variable {P : Program} {w : World} {K : PySem.W.Frag} {mg : Str → Option Value} {base : Heap} {A : Ad}
variable {H H' : Hp} {s dx lk L F av : Addr} {ls ts : List V} {g g' : Ue07.St} {Q : VK} {ans : List Int}
def sp_split_lines : Sp := fun vs H Q _ => ∃ (t : Addr) (ns : List Nat) (l : List (List Nat)) (f : Nat), vs = [.ref t] ∧ H t = some (.lst (nV ns)) ∧ ns.length ≤ 4000 ∧ Ue07Neutral.linesIn f ns = some l ∧
  ∀ H' p xs, Same H H' → H p = none → H' p = some (.lst xs) → All2 (LnV H') xs l → (∀ z, H z ≠ none → V.ref z ∉ xs) → xs.length ≤ ns.length → Q (.ref p) H'
theorem lns_upd {H : Hp} {p : Addr} {o : HO} {xs : List V} {l : List (List Nat)} (hp : ∀ a, V.ref a ∈ xs → a ≠ p) (h : All2 (LnV H) xs l) : All2 (LnV (upd H p o)) xs l := h.mono fun y w hy r => by
  obtain ⟨a, rfl, ha⟩ := r
  exact ⟨a, rfl, by rw [upd_ne (hp a hy)]; exact ha⟩
theorem sc_split_lines : FnScope ["told", "lines", "begin", "behind"] ["told"] (defScope s_split_lines) := ⟨rfl, rfl, rfl, by decide +kernel, rfl, by decide +kernel, by decide +kernel⟩
-- slots of split_lines: told 0, lines 1, begin 2, behind 3
theorem ok_split_lines (T : Tx K mg A) : FnOk P w K mg base CX0 1 A.f_split_lines A.d_split_lines ["told"] (sp_split_lines) := by
  refine T.t_split_lines.F.ok sc_split_lines (fun vs H Q E h => ?_) (fun cdv Ar outer s0 H vs Q E hr h => ?_)
  · obtain ⟨t, ns, l, f, rfl, _⟩ := h
    rfl
  · obtain ⟨t, ns, l, f, rfl, h⟩ := h
    refine ⟨_, (pss_cons (ps_set (i := 1) sc_split_lines.nd rfl (.inl rfl) (pe_lst pa_nil))
      (pss_cons (ps_set (i := 2) sc_split_lines.nd rfl (.inl rfl) (pe_int))
      (pss_cons (ps_while PassesOwn.never (pt_cmpR op_lt (pv 2) (pe_callB call_len_seq (by rfl) T.z_len PySem.boot_len (pa_cons (pv 0) pa_nil)) (nomark _)) (pss_cons (ps_set (i := 3) sc_split_lines.nd rfl (.inl rfl) (pe_op op_add (pe_op op_add (pv 2) (pe_int)) (pe_ix ix_list (pv 0) (pv 2) (fun _ _ => rfl))))
      (pss_cons (ps_expr (pe_bm PySem.F.plainAttrs_list PySem.F.slot_list_append PySem.F.type_list_append mt_append (pv 1) (pa_cons (pe_slice sl_list (pv 0) (po_some (pe_op op_add (pv 2) (pe_int))) (po_some (pv 3))) pa_nil)))
      (pss_one (ps_set (i := 2) sc_split_lines.nd rfl (.inl rfl) (pv 3))))))
      (pss_one (ps_ret (pv 1)))))), ?_⟩
    dsimp only [tRet, tRetN, tChain, tOp, tUn, tC, tVar, tSeq, tIfS, tAsg, gName, tTest, tB, tAnd, tOr, tNot, tAndV, tOrV, tNotV, tFld_eq, sFld_eq, sFldAug, L2.rAdd, L2.rSub, tCons, tNil, tLst, tTup, tCall, tMake, tCB, tCKw, tBM, tSl, tPart, tNoPart, tDrop, tNext, tBreak, iList, iRng1, iEnum, gTup, gCons, gNil, tAug, ipI, rI0, rI, rU, cxOf, Cx.nox, Cx.wish, L2.start, List.map, List.length, List.replicate, List.append]
    obtain ⟨ht, h4000, hl, q⟩ := h
    refine ⟨sz (by decide), fun p np => ?_⟩
    have s1 : Same H (upd H p (.lst [])) := same_upd np
    refine ⟨fun m σ H' => ∃ (b : Nat) (v3 : Option V) (xs : List V) (done rest : List (List Nat)) (f' : Nat), m = ns.length - b ∧ b ≤ ns.length ∧ σ = [some (.ref t), some (.ref p), some (.int b), v3] ∧ Same H H' ∧ H' p = some (.lst xs) ∧
        All2 (LnV H') xs done ∧ xs.length ≤ b ∧ l = done ++ rest ∧ Ue07Neutral.linesIn f' (ns.drop b) = some rest ∧ (∀ a, V.ref a ∈ xs → H a = none ∧ a ≠ p), ⟨_, 0, none, [], [], l, f, rfl, Nat.zero_le _, rfl, s1, upd_same, .nil, Nat.le_refl _, rfl, hl, fun a h => by cases h⟩, ?_⟩
    rintro m σ H' ⟨b, v3, xs, done, rest, f', rfl, hb, rfl, s2, hp, hA, hxb, el, hrest, hfr⟩
    have ht2 := s2 _ _ ht
    refine ⟨_, rfl, _, rfl, t, _, rfl, .inl (SqL.of ht2), _, _, rfl, rfl, _, rfl, ifd (fun cc => ?_) (fun cc => ?_)⟩
    · rw [nV_len] at cc
      have hb2 : b < ns.length := by omega
      have hg : ns[b]? = some ns[b] := List.getElem?_eq_getElem hb2
      have hd : ns.drop b = ns[b] :: ns.drop (b + 1) := List.drop_eq_getElem_cons hb2
      rw [hd] at hrest
      obtain ⟨f2, rest2, hle, e1, e2⟩ : ∃ f2 rest2, ns[b] ≤ (ns.drop (b + 1)).length ∧ rest = (ns.drop (b + 1)).take ns[b] :: rest2 ∧ Ue07Neutral.linesIn f2 ((ns.drop (b + 1)).drop ns[b]) = some rest2 := by
        cases f' with
        | zero => cases hrest
        | succ f2 =>
          have h : (if (ns.drop (b + 1)).length < ns[b] then none else (Ue07Neutral.linesIn f2 ((ns.drop (b + 1)).drop ns[b])).map fun y => (ns.drop (b + 1)).take ns[b] :: y) = some rest := hrest
          split at h
          · cases h
          · rename_i c
            cases e : Ue07Neutral.linesIn f2 ((ns.drop (b + 1)).drop ns[b]) with
            | none => rw [e] at h; cases h
            | some r => rw [e] at h; cases h; exact ⟨f2, r, by omega, rfl, e⟩
      rw [List.length_drop] at hle
      refine ⟨_, fun _ _ h => h, _, rfl, _, _, rfl, rfl, _, rfl, _, rfl, td (i := b) ht2 hg ?_⟩
      refine ⟨_, _, rfl, rfl, ?_⟩
      refine ⟨_, rfl, .inl ⟨rfl, _, SqL.of hp⟩, _, rfl, _, rfl, _, _, rfl, rfl, _, rfl, _, rfl, _, rfl, t, _, rfl, SqL.of ht2, fun c nc => ?_⟩
      have ec : cutV (nV ns) (some ((b : Int) + 1)) (some ((b : Int) + 1 + (ns[b] : Int))) = nV ((ns.drop (b + 1)).take ns[b]) := by
        have := cut_mid (nV ns) (b + 1) (b + 1 + ns[b])
        rw [nV_take, nV_drop, List.drop_take, Nat.add_sub_cancel_left] at this
        exact this
      rw [ec]
      have s3 : Same H' (upd H' c (.lst (nV ((ns.drop (b + 1)).take ns[b])))) := same_upd nc
      have hp3 := s3 _ _ hp
      have ncp : c ≠ p := fun e => by rw [e, hp] at nc; cases nc
      refine ⟨p, xs, _, rfl, rfl, hp3, szl (by omega), ?_⟩
      refine ⟨_, rfl, ?_⟩
      refine ⟨ns.length - (b + 1 + ns[b]), by omega, b + 1 + ns[b], some (.int ((b : Int) + 1 + (ns[b] : Int))), xs ++ [.ref c], done ++ [(ns.drop (b + 1)).take ns[b]], rest2, f2, rfl, by omega, rfl, fun z o hz => ?_, upd_same, ?_, ?_, ?_, ?_, fun a h => ?_⟩
      · rw [upd_ne (ne_of_none hz np)]
        exact s3 _ _ (s2 _ _ hz)
      · refine (lns_upd (fun a h => (hfr a h).2) (lns_same s3 hA)).snoc ⟨c, rfl, ?_⟩
        rw [upd_ne ncp, upd_same]
      · rw [List.length_append]
        show xs.length + 1 ≤ b + 1 + ns[b]
        omega
      · rw [el, e1, List.append_assoc]
        rfl
      · rw [← List.drop_drop]
        exact e2
      · rcases List.mem_append.mp h with h | h
        · exact hfr a h
        · rw [List.mem_singleton] at h
          cases h
          exact ⟨s2.free nc, ncp⟩
    · rw [nV_len] at cc
      have hb2 : ns.drop b = [] := List.drop_eq_nil_of_le (by omega)
      rw [hb2] at hrest
      have er : rest = [] := by
        cases f' with
        | zero => exact (Option.some.inj hrest).symm
        | succ f2 => exact (Option.some.inj hrest).symm
      rw [er, List.append_nil] at el
      rw [← el] at hA
      exact ⟨_, rfl, q H' p xs s2 np hp hA (fun z hz hm => hz (hfr z hm).1) (by omega)⟩
def isL (w : List Nat) : Bool := decide (w.length ≤ 120) && w.all fun b => decide (b ≤ 255) && b != 10
def sp_is_line : Sp := fun vs H Q _ => ∃ (a : Addr) (w : List Nat), vs = [.ref a] ∧ H a = some (.lst (nV w)) ∧ Q (.bl (isL w)) H
theorem sc_is_line : FnScope ["line", "byte"] ["line"] (defScope s_is_line) := ⟨rfl, rfl, rfl, by decide +kernel, rfl, by decide +kernel, by decide +kernel⟩
-- slots of is_line: line 0, byte 1
theorem ok_is_line (T : Tx K mg A) : FnOk P w K mg base CX0 1 A.f_is_line A.d_is_line ["line"] (sp_is_line) := by
  refine T.t_is_line.F.ok sc_is_line (fun vs H Q E h => ?_) (fun cdv Ar outer s0 H vs Q E hr h => ?_)
  · obtain ⟨a, w, rfl, _⟩ := h
    rfl
  · obtain ⟨a, w, rfl, h⟩ := h
    refine ⟨_, (pss_cons (ps_if (pt_cmpR op_gt (pe_callB call_len_seq (by rfl) T.z_len PySem.boot_len (pa_cons (pv 0) pa_nil)) (pe_gi rfl T.v_MOST_BYTES) (nomark _)) (pss_one (ps_ret (pe_bl))) pss_nil)
      (pss_cons (ps_for PassesOwn.never rfl (pi_list (pv 0)) (pg_name (i := 1) sc_is_line.nd rfl (.inl rfl)) (pss_one (ps_if (PW.pt (pw_or (pt_cmpR op_eq (pv 1) (pe_gi rfl T.v_LINE_FEED) (nomark _)) (pw_or1 (pt_cmpR op_gt (pv 1) (pe_int) (nomark _))))) (pss_one (ps_ret (pe_bl))) pss_nil)))
      (pss_one (ps_ret (pe_bl))))), ?_⟩
    dsimp only [tRet, tRetN, tChain, tOp, tUn, tC, tVar, tSeq, tIfS, tAsg, gName, tTest, tB, tAnd, tOr, tNot, tAndV, tOrV, tNotV, tFld_eq, sFld_eq, sFldAug, L2.rAdd, L2.rSub, tCons, tNil, tLst, tTup, tCall, tMake, tCB, tCKw, tBM, tSl, tPart, tNoPart, tDrop, tNext, tBreak, iList, iRng1, iEnum, gTup, gCons, gNil, tAug, ipI, rI0, rI, rU, cxOf, Cx.nox, Cx.wish, L2.start, List.map, List.length, List.replicate, List.append]
    obtain ⟨ha, q⟩ := h
    unfold isL at q
    refine ⟨_, rfl, a, _, rfl, .inl (SqL.of ha), _, _, rfl, rfl, _, rfl, ifd (fun c => ?_) (fun c => ?_)⟩
    · rw [nV_len] at c
      rw [decide_eq_false (show ¬ w.length ≤ 120 by omega), Bool.false_and] at q
      exact q
    rw [nV_len] at c
    rw [decide_eq_true (show w.length ≤ 120 by omega), Bool.true_and] at q
    refine w_for ?_
    refine ⟨_, rfl, a, rfl, ⟨_, SqL.of ha⟩, ?_⟩
    refine forG_list (xs := nV w) (fun i σ H' => H' = H ∧ (∃ v, σ = [some (.ref a), v]) ∧ ((w.take i).all fun b => decide (b ≤ 255) && b != 10) = true) ⟨rfl, ⟨_, rfl⟩, rfl⟩ (fun i σ H' _ ⟨e, _⟩ => by rw [e]; exact SqL.of ha) ?_ ?_
    · rintro i x σ H' hx ⟨rfl, ⟨v, rfl⟩, hall⟩
      obtain ⟨b, hb, rfl⟩ := of_nV hx
      have bad : ¬ (b ≤ 255 ∧ b ≠ 10) → (w.all fun b => decide (b ≤ 255) && b != 10) = false := fun h => by
        rw [List.all_eq_false]
        refine ⟨b, List.mem_of_getElem? hb, fun z => h ?_⟩
        rw [Bool.and_eq_true] at z
        exact ⟨of_decide_eq_true z.1, by simpa using z.2⟩
      refine ⟨_, rfl, rfl, _, rfl, ifv (fun c1 => ?_) (fun c1 => ?_)⟩
      · rw [bad (fun z => by omega)] at q
        exact iteT q
      · refine ⟨_, rfl, _, _, rfl, rfl, _, rfl, ifd (fun c2 => ?_) (fun c2 => ?_)⟩
        · rw [bad (fun z => by omega)] at q
          exact q
        · refine ⟨rfl, ⟨_, rfl⟩, ?_⟩
          rw [take_snoc hb, List.all_append, hall, Bool.true_and]
          have e1 : decide (b ≤ 255) = true := decide_eq_true (by omega)
          have e2 : (b != 10) = true := by simp; omega
          rw [List.all_cons, e1, e2]
          rfl
    · rintro σ H' ⟨rfl, ⟨v, rfl⟩, hall⟩
      rw [nV_len, List.take_length] at hall
      rw [hall] at q
      exact q
def sp_are_lines : Sp := fun vs H Q _ => ∃ (p : Addr) (xs : List V) (l : List (List Nat)), vs = [.ref p] ∧ H p = some (.lst xs) ∧ All2 (LnV H) xs l ∧ xs.length ≤ 4000 ∧ ∀ H', Same H H' → Q (.bl (Ue07.isLines l)) H'
theorem sc_are_lines : FnScope ["lines", "line"] ["lines"] (defScope s_are_lines) := ⟨rfl, rfl, rfl, by decide +kernel, rfl, by decide +kernel, by decide +kernel⟩
-- slots of are_lines: lines 0, line 1
theorem ok_are_lines (T : Tx K mg A) : FnOk P w K mg base CX0 2 A.f_are_lines A.d_are_lines ["lines"] (sp_are_lines) := by
  refine T.t_are_lines.F.ok sc_are_lines (fun vs H Q E h => ?_) (fun cdv Ar outer s0 H vs Q E hr h => ?_)
  · obtain ⟨p, xs, l, rfl, _⟩ := h
    rfl
  · obtain ⟨p, xs, l, rfl, h⟩ := h
    refine ⟨_, (pss_one (ps_ret (pe_callB (cr_all rfl) (by rfl) T.z_all (by decide +kernel) (pa_cons (pe_lc (own := [("line", 1)]) (tt := tYes) (te := (tCall sp_is_line [] E0 (tCons (tVar 1) tNil))) (g := gName 1) rfl sc_are_lines.nd (pi_list (pv 0)) (blkOk_by (own := [("line", 1)]) (N := ["lines", "line"]) (sc := defScope s_are_lines) (by decide +kernel)) (fun _ _ _ _ _ => pg_name (i := 1) sc_are_lines.nd rfl (Or.inl rfl)) (fun _ _ _ _ _ => pts_nil) (fun _ _ _ _ _ => (pe_call (ok_is_line T) (hr.mono (by decide)) (by rfl) T.t_is_line.g T.t_is_line.F.kp T.t_is_line.b .nil pass0 (pa_cons (pv 1) pa_nil)))) pa_nil)))), ?_⟩
    dsimp only [tRet, tRetN, tChain, tOp, tUn, tC, tVar, tSeq, tIfS, tAsg, gName, tTest, tB, tAnd, tOr, tNot, tAndV, tOrV, tNotV, tFld_eq, sFld_eq, sFldAug, L2.rAdd, L2.rSub, tCons, tNil, tLst, tTup, tCall, tMake, tCB, tCKw, tBM, tSl, tPart, tNoPart, tDrop, tNext, tBreak, iList, iRng1, iEnum, gTup, gCons, gNil, tAug, ipI, rI0, rI, rU, cxOf, Cx.nox, Cx.wish, L2.start, List.map, List.length, List.replicate, List.append]
    obtain ⟨hp, hA, h4000, q⟩ := h
    refine w_lc ?_
    refine ⟨_, rfl, p, rfl, ⟨_, SqL.of hp⟩, ?_⟩
    refine lcG_list (xs := xs) (fun D i H' => Same H H' ∧ H' D = some (.lst (((l.take i).map isL).map V.bl))) (fun D nD => ⟨same_upd nD, upd_same⟩) (fun D i H' ⟨s1, _⟩ => SqL.of (s1 _ _ hp)) ?_ ?_
    · rintro D nD i x H' hx ⟨s1, hD⟩
      obtain ⟨w, hw, a, rfl, ha⟩ := hA.get hx
      refine ⟨rfl, ?_⟩
      dsimp only [tYes]
      refine iteT ?_
      refine ⟨_, rfl, a, w, rfl, s1 _ _ ha, _, hD, szl ?_, fun z o hz => ?_, ?_⟩
      · rw [List.length_map, List.length_map, List.length_take]
        have := hA.len
        omega
      · rw [upd_ne (ne_of_none hz nD)]
        exact s1 _ _ hz
      · rw [upd_same, take_snoc hw, List.map_append, List.map_append]
        rfl
    · rintro D nD H' ⟨s1, hD⟩
      rw [hA.len, List.take_length] at hD
      refine ⟨D, l.map isL, rfl, SqL.of hD, ?_⟩
      have e : (l.map isL).all id = Ue07.isLines l := by
        rw [List.all_map]
        rfl
      rw [e]
      exact q H' s1
theorem sc_call_text : FnScope ["state", "told", "lines"] ["state", "told"] (defScope s_call_text) := ⟨rfl, rfl, rfl, by decide +kernel, rfl, by decide +kernel, by decide +kernel⟩
-- slots of call_text: state 0, told 1, lines 2
theorem ok_call_text (T : Tx K mg A) : FnOk P w K mg base CX0 8 A.f_call_text A.d_call_text ["state", "told"] (spCall A 2) := by
  refine T.t_call_text.F.ok sc_call_text (fun vs H Q E h => ?_) (fun cdv Ar outer s0 H vs Q E hr h => ?_)
  · obtain ⟨s, dx, lk, L, F, ls, ts, g, t, av, ns, x, rfl, _⟩ := h
    rfl
  · obtain ⟨s, dx, lk, L, F, ls, ts, g, t, av, ns, x, rfl, h⟩ := h
    refine ⟨_, (pss_cons (ps_set (i := 2) sc_call_text.nd rfl (.inl rfl) (pe_call (ok_split_lines T) (hr.mono (by decide)) (by rfl) T.t_split_lines.g T.t_split_lines.F.kp T.t_split_lines.b .nil pass0 (pa_cons (pv 1) pa_nil)))
      (pss_cons (ps_if (PW.pt (pw_or (pt_not (pt_chain op_le op_le (pe_int) (pe_callB call_len_seq (by rfl) T.z_len PySem.boot_len (pa_cons (pv 2) pa_nil)) (pe_gi rfl T.v_MOST_LINES))) (pw_or1 (pt_not (pt_val (pe_call (ok_are_lines T) (hr.mono (by decide)) (by rfl) T.t_are_lines.g T.t_are_lines.F.kp T.t_are_lines.b .nil pass0 (pa_cons (pv 2) pa_nil))))))) (pss_one (ps_ret (pe_call (ok_refused T) (hr.mono (by decide)) (by rfl) T.t_refused.g T.t_refused.F.kp T.t_refused.b .nil pass0 (pa_cons (pe_gi rfl T.v_WRONG) pa_nil)))) pss_nil)
      (pss_cons (ps_fld (pv 0) (pv 2) rfl)
      (pss_cons (ps_fld (pv 0) (pe_lst pa_nil) rfl)
      (pss_cons (ps_fld (pv 0) (pe_int) rfl)
      (pss_cons (ps_fld (pv 0) (pe_int) rfl)
      (pss_cons (ps_fld (pv 0) (pe_int) rfl)
      (pss_one (ps_ret (pe_call (ok_unwished T) (hr.mono (by decide)) (by rfl) T.t_unwished.g T.t_unwished.F.kp T.t_unwished.b .nil pass0 (pa_cons (pv 0) pa_nil))))))))))), ?_⟩
    dsimp only [tRet, tRetN, tChain, tOp, tUn, tC, tVar, tSeq, tIfS, tAsg, gName, tTest, tB, tAnd, tOr, tNot, tAndV, tOrV, tNotV, tFld_eq, sFld_eq, sFldAug, L2.rAdd, L2.rSub, tCons, tNil, tLst, tTup, tCall, tMake, tCB, tCKw, tBM, tSl, tPart, tNoPart, tDrop, tNext, tBreak, iList, iRng1, iEnum, gTup, gCons, gNil, tAug, ipI, rI0, rI, rU, cxOf, Cx.nox, Cx.wish, L2.start, List.map, List.length, List.replicate, List.append]
    obtain ⟨S, W, ht, hn, hc, hav, a, k⟩ := h
    obtain ⟨l, hl, rfl⟩ := in2 hc
    refine ⟨_, rfl, t, ns, l, _, rfl, ht, hn, hl, fun H1 p xs s1 np hp hA hfr _ => ?_⟩
    have S1 := S.same s1
    have hxl := hA.len
    have R : ∀ H2, Same H H2 → (Ue07.isLines l = false ∨ l = [] ∨ 30 < l.length) → sp_refused [.int 1] H2 Q E0 := fun H2 s2 e => ⟨1, rfl, fun z nz => (k.to (r := (g, [-1])) (if_pos e)).refS S W a s2 nz⟩
    have hnil : ¬ 1 ≤ l.length → l = [] := fun h => by
      cases l with
      | nil => rfl
      | cons y r => exact absurd (by simp) h
    refine ⟨_, rfl, p, _, rfl, .inl (SqL.of hp), _, _, rfl, rfl, _, rfl, ifd (fun c1 => ⟨_, _, rfl, rfl, _, rfl, ifnd (fun c2 => iteT (R H1 s1 (.inr (.inr (by omega))))) (fun c2 => ?_)⟩) (fun c1 => ⟨_, rfl, iteT (iteT (R H1 s1 (.inr (.inl (hnil (by omega))))))⟩)⟩
    refine ⟨_, rfl, p, xs, l, rfl, hp, hA, by omega, fun H2 s2 => ⟨_, rfl, ?_⟩⟩
    have s02 := s1.trans s2
    cases e0 : Ue07.isLines l with
    | false => exact iteT (R H2 s02 (.inl e0))
    | true =>
      refine iteF ?_
      have hno : ¬ (Ue07.isLines l = false ∨ l = [] ∨ 30 < l.length) := by
        rintro (h | h | h)
        · rw [e0] at h; cases h
        · rw [h] at hxl
          rw [hxl] at c1
          exact absurd c1 (by decide)
        · omega
      have hF : H F ≠ none := by rw [S.f]; intro z; cases z
      have npF : p ≠ F := fun e => hF (by rw [← e]; exact np)
      have S2 := S1.same s2
      have hp2 := s2 _ _ hp
      have hA2 := lns_same s2 hA
      refine ⟨_, rfl, _, rfl, st_lines T S2 hp2 hA2 (hfr F hF) npF fun H3 b3 S3 => ?_⟩
      refine ⟨sz (by decide), fun n nn => ?_⟩
      have s4 : Same H3 (upd H3 n (.lst [])) := same_upd nn
      have S4 := S3.same s4
      have hnx : V.ref n ∉ xs := fun h => by
        obtain ⟨w, _, b, e, hb⟩ := S3.lA.left _ h
        cases e
        rw [nn] at hb
        cases hb
      have hpn : p ≠ n := fun e => by rw [← e, S3.l] at nn; cases nn
      refine ⟨_, rfl, st_folds T S4 (l := []) upd_same .nil hnx hpn fun H5 b5 S5 => ?_⟩
      refine ⟨_, rfl, st_line T S5 (n := 0) fun H6 b6 S6 => ?_⟩
      refine ⟨_, rfl, st_place T S6 (n := 0) fun H7 b7 S7 => ?_⟩
      refine ⟨_, rfl, st_top T S7 (n := 0) fun H8 b8 S8 => ?_⟩
      have W0 : WF0 { g with lines := l, folds := [], line := 0, place := 0, wish := none, top := 0 } := ⟨W.lk, by show 1 ≤ l.length; omega, by show l.length ≤ 30; omega, isLines_len e0, by show 0 < l.length; omega, rfl, Nat.zero_le _, Nat.zero_le _, (fun f h => by cases h), W.h1, W.h2⟩
      have b08 : But s H H8 := ((((((same_but s02 s).trans b3).trans (same_but s4 s)).trans b5).trans b6).trans b7).trans b8
      have hn0 : H n = none := ((same_but s02 s).trans b3).free (by rw [S3.o]; intro z; cases z) nn
      refine ⟨_, rfl, s, dx, lk, p, n, xs, [], _, rfl, S8, W0, ?_⟩
      exact (k.to (r := Ue07.answers (Ue07.scrolled { g with lines := l, folds := [], line := 0, place := 0, wish := none, top := 0 })) (if_neg hno)).but W0.scrolled ⟨a.k, ne_av hav np, ne_av hav hn0, hfr av hav, fun h => by cases h⟩ b08 S8.o
/-- folds that stay, by a comprehension -/
theorem filter_snoc {fs : List (Nat × Nat)} {i : Nat} {f : Nat × Nat} {q : Nat × Nat → Bool} (h : fs[i]? = some f) : (fs.take (i + 1)).filter q = (fs.take i).filter q ++ (if q f = true then [f] else []) := by
  rw [take_snoc h, List.filter_append]
  cases e : q f with
  | true => rw [List.filter_cons_of_pos e, List.filter_nil, if_pos rfl]
  | false => rw [List.filter_cons_of_neg (by rw [e]; decide), List.filter_nil, if_neg (by decide)]
theorem WF0.folds (W : WF0 g) (q : Nat × Nat → Bool) : WF0 { g with folds := g.folds.filter q, wish := none } := ⟨W.lk, W.n1, W.n2, W.ln, W.pl, hidden_false.mpr fun f hf => hidden_false.mp W.sn f (List.mem_filter.mp hf).1, W.pc, Nat.le_trans (List.length_filter_le _ _) W.fl, fun f hf => W.fw f (List.mem_filter.mp hf).1, W.h1, W.h2⟩
theorem sc_call_unfold : FnScope ["state", "told", "kept", "fold"] ["state", "told"] (defScope s_call_unfold) := ⟨rfl, rfl, rfl, by decide +kernel, rfl, by decide +kernel, by decide +kernel⟩
-- slots of call_unfold: state 0, told 1, kept 2, fold 3
theorem ok_call_unfold (T : Tx K mg A) : FnOk P w K mg base CX0 8 A.f_call_unfold A.d_call_unfold ["state", "told"] (spCall A 5) := by
  refine T.t_call_unfold.F.ok sc_call_unfold (fun vs H Q E h => ?_) (fun cdv Ar outer s0 H vs Q E hr h => ?_)
  · obtain ⟨s, dx, lk, L, F, ls, ts, g, t, av, ns, x, rfl, _⟩ := h
    rfl
  · obtain ⟨s, dx, lk, L, F, ls, ts, g, t, av, ns, x, rfl, h⟩ := h
    refine ⟨_, (pss_cons (ps_if (pt_cmpR op_ge (pe_ix ix_list (pv 1) (pe_int) (fun _ _ => rfl)) (pe_callB call_len_seq (by rfl) T.z_len PySem.boot_len (pa_cons (pe_fld (pv 0) rfl) pa_nil)) (nomark _)) (pss_one (ps_ret (pe_call (ok_refused T) (hr.mono (by decide)) (by rfl) T.t_refused.g T.t_refused.F.kp T.t_refused.b .nil pass0 (pa_cons (pe_gi rfl T.v_WRONG) pa_nil)))) pss_nil)
      (pss_cons (ps_setLc (i := 2) (own := [("fold", 3)]) (tt := (tNot (tB (tCall sp_has_line [] E0 (tCons (tVar 3) (tCons (tOp (rIxL K) (tVar 1) (tC (.int 0))) tNil)))))) (te := (tVar 3)) (g := gName 3) rfl sc_call_unfold.nd rfl rfl (sw_true rfl rfl rfl (by decide +kernel)) (pi_list (pe_fld (pv 0) rfl)) (blkOk_by (own := [("fold", 3)]) (N := ["state", "told", "kept", "fold"]) (sc := defScope s_call_unfold) (by decide +kernel)) (fun _ _ _ _ _ => pg_name (i := 3) sc_call_unfold.nd rfl (Or.inl rfl)) (fun _ _ _ _ _ => pts_one (pt_not (pt_val (pe_call (ok_has_line T) (hr.mono (by decide)) (by rfl) T.t_has_line.g T.t_has_line.F.kp T.t_has_line.b .nil pass0 (pa_cons (pv 3) (pa_cons (pe_ix ix_list (pv 1) (pe_int) (fun _ _ => rfl)) pa_nil)))))) (fun _ _ _ _ _ => (pv 3)))
      (pss_cons (ps_if (pt_cmpR op_eq (pe_callB call_len_seq (by rfl) T.z_len PySem.boot_len (pa_cons (pv 2) pa_nil)) (pe_callB call_len_seq (by rfl) T.z_len PySem.boot_len (pa_cons (pe_fld (pv 0) rfl) pa_nil)) (nomark _)) (pss_one (ps_ret (pe_call (ok_refused T) (hr.mono (by decide)) (by rfl) T.t_refused.g T.t_refused.F.kp T.t_refused.b .nil pass0 (pa_cons (pe_gi rfl T.v_MISSING) pa_nil)))) pss_nil)
      (pss_cons (ps_fld (pv 0) (pv 2) rfl)
      (pss_one (ps_ret (pe_call (ok_unwished T) (hr.mono (by decide)) (by rfl) T.t_unwished.g T.t_unwished.F.kp T.t_unwished.b .nil pass0 (pa_cons (pv 0) pa_nil)))))))), ?_⟩
    dsimp only [tRet, tRetN, tChain, tOp, tUn, tC, tVar, tSeq, tIfS, tAsg, gName, tTest, tB, tAnd, tOr, tNot, tAndV, tOrV, tNotV, tFld_eq, sFld_eq, sFldAug, L2.rAdd, L2.rSub, tCons, tNil, tLst, tTup, tCall, tMake, tCB, tCKw, tBM, tSl, tPart, tNoPart, tDrop, tNext, tBreak, iList, iRng1, iEnum, gTup, gCons, gNil, tAug, ipI, rI0, rI, rU, cxOf, Cx.nox, Cx.wish, L2.start, List.map, List.length, List.replicate, List.append]
    obtain ⟨S, W, ht, hn, hc, hav, a, k⟩ := h
    obtain ⟨n, rfl, rfl⟩ := in5 hc
    have hls := S.lA.len
    have h12 := W.fl
    refine ⟨_, rfl, td0 ht ?_⟩
    refine ⟨_, rfl, r_State_lines T S.o ?_⟩
    refine ⟨L, _, rfl, .inl (SqL.of S.l), _, _, rfl, rfl, _, rfl, ifd (fun c1 => ?_) (fun c1 => ?_)⟩
    · exact ⟨1, rfl, fun p np => (k.to (r := (g, [-1])) (if_pos (show g.lines.length ≤ n by omega))).ref S W a np⟩
    have k1 : Fin A H s dx F av (if (g.folds.filter fun f => !hasLine f n).length = g.folds.length then (g, [-6]) else Ue07.answers (Ue07.scrolled { g with folds := g.folds.filter fun f => !hasLine f n, wish := none })).1 (if (g.folds.filter fun f => !hasLine f n).length = g.folds.length then (g, [-6]) else Ue07.answers (Ue07.scrolled { g with folds := g.folds.filter fun f => !hasLine f n, wish := none })).2 Q := k.to (if_neg (show ¬ g.lines.length ≤ n by omega))
    refine w_lc ?_
    refine ⟨_, rfl, r_State_folds T S.o ?_⟩
    refine ⟨F, rfl, ⟨_, SqL.of S.f⟩, ?_⟩
    refine lcG_list (xs := ts) (fun D i H' => Same H H' ∧ ∃ ys, H' D = some (.lst ys) ∧ All2 (FdV H') ys ((g.folds.take i).filter fun f => !hasLine f n) ∧ ∀ y ∈ ys, y ∈ ts) (fun D nD => ⟨same_upd nD, [], upd_same, .nil, fun y h => by cases h⟩) (fun D i H' ⟨s1, _⟩ => SqL.of (s1 _ _ S.f)) ?_ ?_
    · rintro D nD i x H' hx ⟨s1, ys, hD, hA, hm⟩
      obtain ⟨f, hf, b, rfl, hb⟩ := S.fA.get hx
      have ef := filter_snoc (q := fun f => !hasLine f n) hf
      refine ⟨rfl, ?_⟩
      refine ⟨_, rfl, _, rfl, td0 (s1 _ _ ht) ?_⟩
      refine ⟨b, f, n, rfl, s1 _ _ hb, _, rfl, ?_⟩
      cases e0 : hasLine f n with
      | true =>
        refine iteF ⟨s1, ys, hD, ?_, hm⟩
        rw [ef, e0, if_neg (by decide), List.append_nil]
        exact hA
      | false =>
        have hyl : ys.length < sizeLine := szl (by
          rw [hA.len]
          have := List.length_filter_le (fun f => !hasLine f n) (g.folds.take i)
          rw [List.length_take] at this
          omega)
        refine iteT ⟨_, rfl, ys, hD, hyl, fun z o hz => ?_, ys ++ [.ref b], upd_same, ?_, fun y hy => ?_⟩
        · rw [upd_ne (ne_of_none hz nD)]
          exact s1 _ _ hz
        · rw [ef, e0, if_pos (by rfl)]
          have up : ∀ y g', y ∈ ys → FdV H' y g' → FdV (upd H' D (.lst (ys ++ [V.ref b]))) y g' := fun y g' _ r => by
            obtain ⟨z, rfl, hz⟩ := r
            refine ⟨z, rfl, ?_⟩
            show upd H' D _ z = _
            rw [upd_ne (ne_of hz hD (by intro z; cases z))]
            exact hz
          refine (hA.mono up).snoc ⟨b, rfl, ?_⟩
          show upd H' D _ b = _
          rw [upd_ne (ne_of_none hb nD)]
          exact s1 _ _ hb
        · rcases List.mem_append.mp hy with h | h
          · exact hm y h
          · rw [List.mem_singleton.mp h]
            exact List.mem_of_getElem? hx
    · rintro D nD H1 ⟨s1, ys, hD, hA, hm⟩
      rw [S.fA.len, List.take_length] at hA
      have S1 := S.same s1
      refine ⟨_, rfl, D, _, rfl, .inl (SqL.of hD), _, rfl, r_State_folds T S1.o ?_⟩
      refine ⟨F, _, rfl, .inl (SqL.of S1.f), rfl, _, rfl, ifv (fun c2 => ?_) (fun c2 => ?_)⟩
      · rw [hA.len, S.fA.len] at c2
        rw [if_pos (by omega)] at k1
        exact ⟨6, rfl, fun p np => k1.refS S W a s1 np⟩
      · rw [hA.len, S.fA.len] at c2
        rw [if_neg (by omega)] at k1
        have hnl : V.ref D ∉ ls := fun h => by
          obtain ⟨w, _, b, e, hb⟩ := S.lA.left _ h
          cases e
          rw [nD] at hb
          cases hb
        have hnL : L ≠ D := fun e => by rw [← e, S.l] at nD; cases nD
        refine ⟨_, rfl, _, rfl, st_folds T S1 hD hA hnl hnL fun H2 b2 S2 => ?_⟩
        have W0 := W.toWF0.folds fun f => !hasLine f n
        refine ⟨_, rfl, s, dx, lk, L, D, ls, ys, _, rfl, S2, W0, ?_⟩
        exact k1.but W0.scrolled ⟨a.k, a.l, ne_av hav nD, a.ls, fun h => a.ts (hm _ h)⟩ ((same_but s1 s).trans b2) S2.o
theorem sc_call_goto : FnScope ["state", "told", "fold"] ["state", "told"] (defScope s_call_goto) := ⟨rfl, rfl, rfl, by decide +kernel, rfl, by decide +kernel, by decide +kernel⟩
-- slots of call_goto: state 0, told 1, fold 2
theorem ok_call_goto (T : Tx K mg A) : FnOk P w K mg base CX0 8 A.f_call_goto A.d_call_goto ["state", "told"] (spCall A 6) := by
  refine T.t_call_goto.F.ok sc_call_goto (fun vs H Q E h => ?_) (fun cdv Ar outer s0 H vs Q E hr h => ?_)
  · obtain ⟨s, dx, lk, L, F, ls, ts, g, t, av, ns, x, rfl, _⟩ := h
    rfl
  · obtain ⟨s, dx, lk, L, F, ls, ts, g, t, av, ns, x, rfl, h⟩ := h
    refine ⟨_, (pss_cons (ps_if (pt_not (pt_val (pe_call (ok_is_place T) (hr.mono (by decide)) (by rfl) T.t_is_place.g T.t_is_place.F.kp T.t_is_place.b .nil pass0 (pa_cons (pv 0) (pa_cons (pe_ix ix_list (pv 1) (pe_int) (fun _ _ => rfl)) (pa_cons (pe_ix ix_list (pv 1) (pe_int) (fun _ _ => rfl)) pa_nil)))))) (pss_one (ps_ret (pe_call (ok_refused T) (hr.mono (by decide)) (by rfl) T.t_refused.g T.t_refused.F.kp T.t_refused.b .nil pass0 (pa_cons (pe_gi rfl T.v_WRONG) pa_nil)))) pss_nil)
      (pss_cons (ps_fld (pv 0) (pe_lc (own := [("fold", 2)]) (tt := (tNot (tB (tCall sp_hides [] E0 (tCons (tVar 2) (tCons (tOp (rIxL K) (tVar 1) (tC (.int 0))) tNil)))))) (te := (tVar 2)) (g := gName 2) rfl sc_call_goto.nd (pi_list (pe_fld (pv 0) rfl)) (blkOk_by (own := [("fold", 2)]) (N := ["state", "told", "fold"]) (sc := defScope s_call_goto) (by decide +kernel)) (fun _ _ _ _ _ => pg_name (i := 2) sc_call_goto.nd rfl (Or.inl rfl)) (fun _ _ _ _ _ => pts_one (pt_not (pt_val (pe_call (ok_hides T) (hr.mono (by decide)) (by rfl) T.t_hides.g T.t_hides.F.kp T.t_hides.b .nil pass0 (pa_cons (pv 2) (pa_cons (pe_ix ix_list (pv 1) (pe_int) (fun _ _ => rfl)) pa_nil)))))) (fun _ _ _ _ _ => (pv 2))) rfl)
      (pss_cons (ps_fld (pv 0) (pe_ix ix_list (pv 1) (pe_int) (fun _ _ => rfl)) rfl)
      (pss_cons (ps_fld (pv 0) (pe_ix ix_list (pv 1) (pe_int) (fun _ _ => rfl)) rfl)
      (pss_one (ps_ret (pe_call (ok_unwished T) (hr.mono (by decide)) (by rfl) T.t_unwished.g T.t_unwished.F.kp T.t_unwished.b .nil pass0 (pa_cons (pv 0) pa_nil)))))))), ?_⟩
    dsimp only [tRet, tRetN, tChain, tOp, tUn, tC, tVar, tSeq, tIfS, tAsg, gName, tTest, tB, tAnd, tOr, tNot, tAndV, tOrV, tNotV, tFld_eq, sFld_eq, sFldAug, L2.rAdd, L2.rSub, tCons, tNil, tLst, tTup, tCall, tMake, tCB, tCKw, tBM, tSl, tPart, tNoPart, tDrop, tNext, tBreak, iList, iRng1, iEnum, gTup, gCons, gNil, tAug, ipI, rI0, rI, rU, cxOf, Cx.nox, Cx.wish, L2.start, List.map, List.length, List.replicate, List.append]
    obtain ⟨S, W, ht, hn, hc, hav, a, k⟩ := h
    obtain ⟨n, pl, rfl, rfl⟩ := in6 hc
    have h12 := W.fl
    refine ⟨_, rfl, _, rfl, td0 ht ?_⟩
    refine ⟨_, rfl, td1 ht ?_⟩
    refine ⟨s, dx, lk, L, F, ls, ts, g, n, pl, rfl, S, _, rfl, ?_⟩
    cases e0 : isPlace g n pl with
    | false => exact iteT ⟨1, rfl, fun p np => (k.to (r := (g, [-1])) (if_pos (isPlace_iff.mp e0))).ref S W a np⟩
    | true =>
    have hno : ¬ (g.lines.length ≤ n ∨ (Ue07.lineAt g n).length < pl) := fun h => by rw [isPlace_iff.mpr h] at e0; cases e0
    have k1 := k.to (if_neg hno)
    refine iteF ?_
    refine w_lc ?_
    refine ⟨_, rfl, r_State_folds T S.o ?_⟩
    refine ⟨F, rfl, ⟨_, SqL.of S.f⟩, ?_⟩
    refine lcG_list (xs := ts) (fun D i H' => Same H H' ∧ ∃ ys, H' D = some (.lst ys) ∧ All2 (FdV H') ys ((g.folds.take i).filter fun f => !Ue07.hides f n) ∧ ∀ y ∈ ys, y ∈ ts) (fun D nD => ⟨same_upd nD, [], upd_same, .nil, fun y h => by cases h⟩) (fun D i H' ⟨s1, _⟩ => SqL.of (s1 _ _ S.f)) ?_ ?_
    · rintro D nD i x H' hx ⟨s1, ys, hD, hA, hm⟩
      obtain ⟨f, hf, b, rfl, hb⟩ := S.fA.get hx
      have ef := filter_snoc (q := fun f => !Ue07.hides f n) hf
      refine ⟨rfl, ?_⟩
      refine ⟨_, rfl, _, rfl, td0 (s1 _ _ ht) ?_⟩
      refine ⟨b, f, n, rfl, s1 _ _ hb, _, rfl, ?_⟩
      cases e0 : Ue07.hides f n with
      | true =>
        refine iteF ⟨s1, ys, hD, ?_, hm⟩
        rw [ef, e0, if_neg (by decide), List.append_nil]
        exact hA
      | false =>
        have hyl : ys.length < sizeLine := szl (by
          rw [hA.len]
          have h1 : ∀ q : Nat × Nat → Bool, ((g.folds.take i).filter q).length ≤ 12 := fun q => Nat.le_trans (List.length_filter_le _ _) (by rw [List.length_take]; omega)
          exact Nat.lt_of_le_of_lt (h1 _) (by decide))
        refine iteT ⟨_, rfl, ys, hD, hyl, fun z o hz => ?_, ys ++ [.ref b], upd_same, ?_, fun y hy => ?_⟩
        · rw [upd_ne (ne_of_none hz nD)]
          exact s1 _ _ hz
        · rw [ef, e0, if_pos (by rfl)]
          have up : ∀ y g', y ∈ ys → FdV H' y g' → FdV (upd H' D (.lst (ys ++ [V.ref b]))) y g' := fun y g' _ r => by
            obtain ⟨z, rfl, hz⟩ := r
            refine ⟨z, rfl, ?_⟩
            show upd H' D _ z = _
            rw [upd_ne (ne_of hz hD (by intro z; cases z))]
            exact hz
          refine (hA.mono up).snoc ⟨b, rfl, ?_⟩
          show upd H' D _ b = _
          rw [upd_ne (ne_of_none hb nD)]
          exact s1 _ _ hb
        · rcases List.mem_append.mp hy with h | h
          · exact hm y h
          · rw [List.mem_singleton.mp h]
            exact List.mem_of_getElem? hx
    · rintro D nD H1 ⟨s1, ys, hD, hA, hm⟩
      rw [S.fA.len, List.take_length] at hA
      have S1 := S.same s1
      have ht1 := s1 _ _ ht
      have hnl : V.ref D ∉ ls := fun h => by
        obtain ⟨w, _, b, e, hb⟩ := S.lA.left _ h
        cases e
        rw [nD] at hb
        cases hb
      have hnL : L ≠ D := fun e => by rw [← e, S.l] at nD; cases nD
      refine ⟨_, rfl, st_folds T S1 hD hA hnl hnL fun H2 b2 S2 => ?_⟩
      refine ⟨_, rfl, td0 (S1.but_lst b2 ht1) ?_⟩
      refine ⟨_, rfl, st_line T S2 fun H3 b3 S3 => ?_⟩
      refine ⟨_, rfl, td1 (S2.but_lst b3 (S1.but_lst b2 ht1)) ?_⟩
      refine ⟨_, rfl, st_place T S3 fun H4 b4 S4 => ?_⟩
      have W1 := W.toWF0.folds fun f => !Ue07.hides f n
      have W0 : WF0 { g with folds := g.folds.filter (fun f => !Ue07.hides f n), line := n, place := pl, wish := none } := ⟨W1.lk, W1.n1, W1.n2, W1.ln, by show n < g.lines.length; omega, hidden_false.mpr fun f hf => by simpa using (List.mem_filter.mp hf).2, by show pl ≤ (Ue07.lineAt g n).length; omega, W1.fl, W1.fw, W1.h1, W1.h2⟩
      refine ⟨_, rfl, s, dx, lk, L, D, ls, ys, _, rfl, S4, W0, ?_⟩
      exact k1.but W0.scrolled ⟨a.k, a.l, ne_av hav nD, a.ls, fun h => a.ts (hm _ h)⟩ ((((same_but s1 s).trans b2).trans b3).trans b4) S4.o
end
end FV
namespace FV
open PySem PySem.Spec PyProof.Rows L2
section
variable {P : Program} {w : World} {K : PySem.W.Frag} {mg : Str → Option Value} {base : Heap} {A : Ad}
variable {H H' : Hp} {s dx lk L F av : Addr} {ls ts : List V} {g g' : Ue07.St} {Q : VK} {ans : List Int}
theorem flat_nV (l : List Nat) : (nV l).all flatV = true := by
  unfold nV
  rw [List.all_map, List.all_eq_true]
  intro x _
  rfl
theorem index_of {pre post : List Nat} {n : Nat} {q : Addr} {R : VK} (hq : H q = some (.lst (nV (pre ++ n :: post)))) (h1 : ∀ x ∈ pre, x < n) (k : R (.int (pre.length : Nat)) H) : rIndex K (.ref q) [.int n] H R := by
  refine ⟨q, _, .int n, pre.length, .int n, rfl, rfl, SqL.of hq, rfl, flat_nV _, nV_get (by simp), by show ((n : Int) == (n : Int)) = true; simp, fun m z' hm hz => ?_, k⟩
  obtain ⟨b, hb, rfl⟩ := of_nV hz
  rw [List.getElem?_append_left hm] at hb
  have := h1 b (List.mem_of_getElem? hb)
  show ((b : Int) == (n : Int)) = false
  exact beq_eq_false_iff_ne.mpr (by omega)
def sp_step (A : Ad) (f : Ue07.St → Ue07.St) : Sp := fun vs H Q _ => ∃ (s dx lk L F : Addr) (ls ts : List V) (g : Ue07.St) (q : Addr), vs = [.ref s, .ref q] ∧ StAt A H s dx lk L F ls ts g ∧ WF0 g ∧ H q = some (.lst (nV (Ue07.seen g.folds g.lines.length))) ∧
  ∀ H', But s H H' → StAt A H' s dx lk L F ls ts (f g) → Q .non H'
theorem sc_step_left : FnScope ["state", "seen", "before"] ["state", "seen"] (defScope s_step_left) := ⟨rfl, rfl, rfl, by decide +kernel, rfl, by decide +kernel, by decide +kernel⟩
-- slots of step_left: state 0, seen 1, before 2
theorem ok_step_left (T : Tx K mg A) : FnOk P w K mg base CX0 1 A.f_step_left A.d_step_left ["state", "seen"] (sp_step A Ue07.oneLeft) := by
  refine T.t_step_left.F.ok sc_step_left (fun vs H Q E h => ?_) (fun cdv Ar outer s0 H vs Q E hr h => ?_)
  · obtain ⟨s, dx, lk, L, F, ls, ts, g, q, rfl, _⟩ := h
    rfl
  · obtain ⟨s, dx, lk, L, F, ls, ts, g, q, rfl, h⟩ := h
    refine ⟨_, (pss_cons (ps_set (i := 2) sc_step_left.nd rfl (.inl rfl) (pe_op op_sub (pe_bm PySem.F.plainAttrs_list PySem.F.slot_list_index PySem.F.type_list_index mt_index (pv 1) (pa_cons (pe_fld (pv 0) rfl) pa_nil)) (pe_int)))
      (pss_one (ps_if (pt_cmpR op_gt (pe_fld (pv 0) rfl) (pe_int) (nomark _)) (pss_one (ps_fldaug (pv 0) (pe_int) in_sub)) (pss_one (ps_if (pt_cmpR op_ge (pv 2) (pe_int) (nomark _)) (pss_cons (ps_fld (pv 0) (pe_ix ix_list (pv 1) (pv 2) (fun _ _ => rfl)) rfl)
      (pss_one (ps_fld (pv 0) (pe_callB call_len_seq (by rfl) T.z_len PySem.boot_len (pa_cons (pe_ix ix_list (pe_fld (pv 0) rfl) (pe_fld (pv 0) rfl) (fun _ _ => rfl)) pa_nil)) rfl))) pss_nil))))), ?_⟩
    dsimp only [tRet, tRetN, tChain, tOp, tUn, tC, tVar, tSeq, tIfS, tAsg, gName, tTest, tB, tAnd, tOr, tNot, tAndV, tOrV, tNotV, tFld_eq, sFld_eq, sFldAug, L2.rAdd, L2.rSub, tCons, tNil, tLst, tTup, tCall, tMake, tCB, tCKw, tBM, tSl, tPart, tNoPart, tDrop, tNext, tBreak, iList, iRng1, iEnum, gTup, gCons, gNil, tAug, ipI, rI0, rI, rU, cxOf, Cx.nox, Cx.wish, L2.start, List.map, List.length, List.replicate, List.append]
    obtain ⟨S, W, hq, k⟩ := h
    obtain ⟨pre, post, e, h1, h2, _⟩ := seen_split g W.mem
    rw [e] at hq
    unfold Ue07.oneLeft at k
    rw [e, split_lt h1 h2] at k
    refine ⟨_, rfl, .inl ⟨rfl, _, SqL.of hq⟩, _, rfl, r_State_line T S.o ?_⟩
    refine index_of hq h1 ?_
    refine ⟨_, _, rfl, rfl, ?_⟩
    refine ⟨_, rfl, r_State_place T S.o ?_⟩
    refine ⟨_, _, rfl, rfl, _, rfl, ifd (fun c1 => ?_) (fun c1 => ?_)⟩
    · rw [if_pos (by omega)] at k
      refine ⟨_, rfl, s, _, dx, _, _, rfl, S.o, T.t_State.c, T.n_State_place, look_State_place .., _, _, rfl, rfl, dx, _, S.o, (by show 9 < 1000; decide), ?_⟩
      rw [show (g.place : Int) - 1 = ((g.place - 1 : Nat) : Int) by omega, put_State_place]
      exact k _ but_upd (S.store S.k S.l S.lA S.f S.fA S.n S.m)
    · rw [if_neg (by omega)] at k
      refine ⟨_, rfl, _, _, rfl, rfl, _, rfl, ifd (fun c2 => ?_) (fun c2 => ?_)⟩
      · have hpos : pre.length - 1 < pre.length := by omega
        have hg : pre[pre.length - 1]? = some pre[pre.length - 1] := List.getElem?_eq_getElem hpos
        have hgl : pre.getLast? = some pre[pre.length - 1] := by rw [List.getLast?_eq_getElem?]; exact hg
        rw [hgl] at k
        have hm : pre[pre.length - 1] ∈ Ue07.seen g.folds g.lines.length := by
          rw [e]
          exact List.mem_append_left _ (List.getElem_mem hpos)
        have hml := (mem_seen.mp hm).1
        refine ⟨_, rfl, _, rfl, q, _, _, _, rfl, rfl, SqL.of hq, at_of (j := pre.length - 1) (by omega) (nV_get (by rw [List.getElem?_append_left hpos]; exact hg)), ?_⟩
        refine ⟨_, rfl, st_line T S fun H1 b1 S1 => ?_⟩
        obtain ⟨a, ha1, ha2⟩ := S1.line_at hml
        refine ⟨_, rfl, r_State_lines T S1.o ?_⟩
        refine ⟨_, rfl, r_State_line T S1.o ?_⟩
        refine ⟨L, _, _, _, rfl, rfl, SqL.of S1.l, atI_nat ha1, ?_⟩
        refine ⟨a, _, rfl, .inl (SqL.of ha2), ?_⟩
        rw [nV_len]
        refine ⟨_, rfl, st_place T S1 fun H2 b2 S2 => ?_⟩
        exact k _ (b1.trans b2) S2
      · have hnil : pre = [] := by
          cases pre with
          | nil => rfl
          | cons y r => exact absurd c2 (by rw [List.length_cons]; omega)
        rw [hnil] at k
        exact k _ (But.refl _ _) S
theorem sc_step_right : FnScope ["state", "seen", "after"] ["state", "seen"] (defScope s_step_right) := ⟨rfl, rfl, rfl, by decide +kernel, rfl, by decide +kernel, by decide +kernel⟩
-- slots of step_right: state 0, seen 1, after 2
theorem ok_step_right (T : Tx K mg A) : FnOk P w K mg base CX0 1 A.f_step_right A.d_step_right ["state", "seen"] (sp_step A Ue07.oneRight) := by
  refine T.t_step_right.F.ok sc_step_right (fun vs H Q E h => ?_) (fun cdv Ar outer s0 H vs Q E hr h => ?_)
  · obtain ⟨s, dx, lk, L, F, ls, ts, g, q, rfl, _⟩ := h
    rfl
  · obtain ⟨s, dx, lk, L, F, ls, ts, g, q, rfl, h⟩ := h
    refine ⟨_, (pss_cons (ps_set (i := 2) sc_step_right.nd rfl (.inl rfl) (pe_op op_add (pe_bm PySem.F.plainAttrs_list PySem.F.slot_list_index PySem.F.type_list_index mt_index (pv 1) (pa_cons (pe_fld (pv 0) rfl) pa_nil)) (pe_int)))
      (pss_one (ps_if (pt_cmpR op_lt (pe_fld (pv 0) rfl) (pe_callB call_len_seq (by rfl) T.z_len PySem.boot_len (pa_cons (pe_ix ix_list (pe_fld (pv 0) rfl) (pe_fld (pv 0) rfl) (fun _ _ => rfl)) pa_nil)) (nomark _)) (pss_one (ps_fldaug (pv 0) (pe_int) in_add)) (pss_one (ps_if (pt_cmpR op_lt (pv 2) (pe_callB call_len_seq (by rfl) T.z_len PySem.boot_len (pa_cons (pv 1) pa_nil)) (nomark _)) (pss_cons (ps_fld (pv 0) (pe_ix ix_list (pv 1) (pv 2) (fun _ _ => rfl)) rfl)
      (pss_one (ps_fld (pv 0) (pe_int) rfl))) pss_nil))))), ?_⟩
    dsimp only [tRet, tRetN, tChain, tOp, tUn, tC, tVar, tSeq, tIfS, tAsg, gName, tTest, tB, tAnd, tOr, tNot, tAndV, tOrV, tNotV, tFld_eq, sFld_eq, sFldAug, L2.rAdd, L2.rSub, tCons, tNil, tLst, tTup, tCall, tMake, tCB, tCKw, tBM, tSl, tPart, tNoPart, tDrop, tNext, tBreak, iList, iRng1, iEnum, gTup, gCons, gNil, tAug, ipI, rI0, rI, rU, cxOf, Cx.nox, Cx.wish, L2.start, List.map, List.length, List.replicate, List.append]
    obtain ⟨S, W, hq, k⟩ := h
    obtain ⟨pre, post, e, h1, h2, _⟩ := seen_split g W.mem
    rw [e] at hq
    unfold Ue07.oneRight at k
    rw [e, split_gt h1 h2] at k
    obtain ⟨a0, ha1, ha2⟩ := S.line_at W.pl
    refine ⟨_, rfl, .inl ⟨rfl, _, SqL.of hq⟩, _, rfl, r_State_line T S.o ?_⟩
    refine index_of hq h1 ?_
    refine ⟨_, _, rfl, rfl, ?_⟩
    refine ⟨_, rfl, r_State_place T S.o ?_⟩
    refine ⟨_, rfl, r_State_lines T S.o ?_⟩
    refine ⟨_, rfl, r_State_line T S.o ?_⟩
    refine ⟨L, _, _, _, rfl, rfl, SqL.of S.l, atI_nat ha1, ?_⟩
    refine ⟨a0, _, rfl, .inl (SqL.of ha2), ?_⟩
    rw [nV_len]
    refine ⟨_, _, rfl, rfl, _, rfl, ifd (fun c1 => ?_) (fun c1 => ?_)⟩
    · rw [if_pos (by omega)] at k
      refine ⟨_, rfl, s, _, dx, _, _, rfl, S.o, T.t_State.c, T.n_State_place, look_State_place .., _, _, rfl, rfl, dx, _, S.o, (by show 9 < 1000; decide), ?_⟩
      rw [show (g.place : Int) + 1 = ((g.place + 1 : Nat) : Int) by omega, put_State_place]
      exact k _ but_upd (S.store S.k S.l S.lA S.f S.fA S.n S.m)
    · rw [if_neg (by omega)] at k
      refine ⟨_, rfl, _, rfl, q, _, rfl, .inl (SqL.of hq), ?_⟩
      rw [nV_len, List.length_append, List.length_cons]
      refine ⟨_, _, rfl, rfl, _, rfl, ifd (fun c2 => ?_) (fun c2 => ?_)⟩
      · cases post with
        | nil => exact absurd c2 (by rw [List.length_nil]; omega)
        | cons y r =>
          have k' : ∀ H', But s H H' → StAt A H' s dx lk L F ls ts { g with line := y, place := 0 } → Q .non H' := k
          refine ⟨_, rfl, _, rfl, q, _, _, _, rfl, rfl, SqL.of hq, at_of (j := pre.length + 1) (by omega) (nV_get (b := y) (by rw [List.getElem?_append_right (by omega), Nat.add_sub_cancel_left]; rfl)), ?_⟩
          refine ⟨_, rfl, st_line T S fun H1 b1 S1 => ?_⟩
          refine ⟨_, rfl, st_place T S1 (n := 0) fun H2 b2 S2 => ?_⟩
          exact k' _ (b1.trans b2) S2
      · cases post with
        | nil => exact k _ (But.refl _ _) S
        | cons y r => exact absurd c2 (by rw [List.length_cons]; omega)
theorem several_keeps {f : Ue07.St → Ue07.St} (hf : ∀ g, (f g).folds = g.folds ∧ (f g).lines = g.lines) (hW : ∀ g, WF0 g → WF0 (f g)) (W : WF0 g) : ∀ n, (Ue07.several f n g).folds = g.folds ∧ (Ue07.several f n g).lines = g.lines ∧ WF0 (Ue07.several f n g)
  | 0 => ⟨rfl, rfl, W⟩
  | n + 1 => by
    rw [several_succ]
    have h := several_keeps hf hW W n
    exact ⟨(hf _).1.trans h.1, (hf _).2.trans h.2.1, hW _ h.2.2⟩
theorem sc_call_left : FnScope ["state", "told", "seen", "step"] ["state", "told"] (defScope s_call_left) := ⟨rfl, rfl, rfl, by decide +kernel, rfl, by decide +kernel, by decide +kernel⟩
-- slots of call_left: state 0, told 1, seen 2, step 3
theorem ok_call_left (T : Tx K mg A) : FnOk P w K mg base CX0 8 A.f_call_left A.d_call_left ["state", "told"] (spCall A 9) := by
  refine T.t_call_left.F.ok sc_call_left (fun vs H Q E h => ?_) (fun cdv Ar outer s0 H vs Q E hr h => ?_)
  · obtain ⟨s, dx, lk, L, F, ls, ts, g, t, av, ns, x, rfl, _⟩ := h
    rfl
  · obtain ⟨s, dx, lk, L, F, ls, ts, g, t, av, ns, x, rfl, h⟩ := h
    refine ⟨_, (pss_cons (ps_if (pt_cmpR op_gt (pe_ix ix_list (pv 1) (pe_int) (fun _ _ => rfl)) (pe_gi rfl T.v_MOST_STEPS) (nomark _)) (pss_one (ps_ret (pe_call (ok_refused T) (hr.mono (by decide)) (by rfl) T.t_refused.g T.t_refused.F.kp T.t_refused.b .nil pass0 (pa_cons (pe_gi rfl T.v_WRONG) pa_nil)))) pss_nil)
      (pss_cons (ps_set (i := 2) sc_call_left.nd rfl (.inl rfl) (pe_call (ok_seen_lines T) (hr.mono (by decide)) (by rfl) T.t_seen_lines.g T.t_seen_lines.F.kp T.t_seen_lines.b .nil pass0 (pa_cons (pv 0) pa_nil)))
      (pss_cons (ps_for PassesOwn.never rfl (pi_range1 rfl T.z_range (pa_cons (pe_ix ix_list (pv 1) (pe_int) (fun _ _ => rfl)) pa_nil)) (pg_name (i := 3) sc_call_left.nd rfl (.inl rfl)) (pss_one (ps_expr (pe_call (ok_step_left T) (hr.mono (by decide)) (by rfl) T.t_step_left.g T.t_step_left.F.kp T.t_step_left.b .nil pass0 (pa_cons (pv 0) (pa_cons (pv 2) pa_nil))))))
      (pss_one (ps_ret (pe_call (ok_unwished T) (hr.mono (by decide)) (by rfl) T.t_unwished.g T.t_unwished.F.kp T.t_unwished.b .nil pass0 (pa_cons (pv 0) pa_nil))))))), ?_⟩
    dsimp only [tRet, tRetN, tChain, tOp, tUn, tC, tVar, tSeq, tIfS, tAsg, gName, tTest, tB, tAnd, tOr, tNot, tAndV, tOrV, tNotV, tFld_eq, sFld_eq, sFldAug, L2.rAdd, L2.rSub, tCons, tNil, tLst, tTup, tCall, tMake, tCB, tCKw, tBM, tSl, tPart, tNoPart, tDrop, tNext, tBreak, iList, iRng1, iEnum, gTup, gCons, gNil, tAug, ipI, rI0, rI, rU, cxOf, Cx.nox, Cx.wish, L2.start, List.map, List.length, List.replicate, List.append]
    obtain ⟨S, W, ht, hn, hc, hav, a, k⟩ := h
    obtain ⟨n, rfl, rfl⟩ := in9 hc
    refine ⟨_, rfl, td0 ht ?_⟩
    refine ⟨_, _, rfl, rfl, _, rfl, ifd (fun c1 => ?_) (fun c1 => ?_)⟩
    · exact ⟨1, rfl, fun p np => (k.to (r := (g, [-1])) (if_pos (show 100 < n by omega))).ref S W a np⟩
    have k1 := k.to (if_neg (show ¬ 100 < n by omega))
    have kp := several_keeps left_keeps (fun _ h => WF0.left h) W.toWF0
    refine ⟨_, rfl, s, dx, lk, L, F, ls, ts, g, rfl, S, W.n2, fun H1 q s1 nq hq => ?_⟩
    have S1 := S.same s1
    have ht1 := s1 _ _ ht
    refine w_for ?_
    refine ⟨_, rfl, td0 ht1 ?_⟩
    refine ⟨_, rfl, by omega, by omega, ?_⟩
    refine forG_range (n := n) (fun i σ H' => (∃ v, σ = [some (.ref s), some (.ref t), some (.ref q), v]) ∧ But s H H' ∧ StAt A H' s dx lk L F ls ts (Ue07.several Ue07.oneLeft i g) ∧ H' q = some (.lst (nV (Ue07.seen g.folds g.lines.length)))) ⟨⟨_, rfl⟩, same_but s1 s, S1, hq⟩ ?_ ?_
    · rintro i σ H' hi ⟨⟨v, rfl⟩, b1, S2, hq2⟩
      obtain ⟨e1, e2, W2⟩ := kp i
      refine ⟨_, rfl, _, rfl, s, dx, lk, L, F, ls, ts, _, q, rfl, S2, W2, by rw [e1, e2]; exact hq2, fun H3 b3 S3 => ?_⟩
      exact ⟨⟨_, rfl⟩, b1.trans b3, by rw [several_succ]; exact S3, S2.but_lst b3 hq2⟩
    · rintro σ H' ⟨⟨v, rfl⟩, b1, S2, hq2⟩
      have W2 := (kp n).2.2.wish none
      refine ⟨_, rfl, s, dx, lk, L, F, ls, ts, _, rfl, S2, W2, ?_⟩
      exact k1.but W2.scrolled a b1 S2.o
theorem sc_call_right : FnScope ["state", "told", "seen", "step"] ["state", "told"] (defScope s_call_right) := ⟨rfl, rfl, rfl, by decide +kernel, rfl, by decide +kernel, by decide +kernel⟩
-- slots of call_right: state 0, told 1, seen 2, step 3
theorem ok_call_right (T : Tx K mg A) : FnOk P w K mg base CX0 8 A.f_call_right A.d_call_right ["state", "told"] (spCall A 10) := by
  refine T.t_call_right.F.ok sc_call_right (fun vs H Q E h => ?_) (fun cdv Ar outer s0 H vs Q E hr h => ?_)
  · obtain ⟨s, dx, lk, L, F, ls, ts, g, t, av, ns, x, rfl, _⟩ := h
    rfl
  · obtain ⟨s, dx, lk, L, F, ls, ts, g, t, av, ns, x, rfl, h⟩ := h
    refine ⟨_, (pss_cons (ps_if (pt_cmpR op_gt (pe_ix ix_list (pv 1) (pe_int) (fun _ _ => rfl)) (pe_gi rfl T.v_MOST_STEPS) (nomark _)) (pss_one (ps_ret (pe_call (ok_refused T) (hr.mono (by decide)) (by rfl) T.t_refused.g T.t_refused.F.kp T.t_refused.b .nil pass0 (pa_cons (pe_gi rfl T.v_WRONG) pa_nil)))) pss_nil)
      (pss_cons (ps_set (i := 2) sc_call_right.nd rfl (.inl rfl) (pe_call (ok_seen_lines T) (hr.mono (by decide)) (by rfl) T.t_seen_lines.g T.t_seen_lines.F.kp T.t_seen_lines.b .nil pass0 (pa_cons (pv 0) pa_nil)))
      (pss_cons (ps_for PassesOwn.never rfl (pi_range1 rfl T.z_range (pa_cons (pe_ix ix_list (pv 1) (pe_int) (fun _ _ => rfl)) pa_nil)) (pg_name (i := 3) sc_call_right.nd rfl (.inl rfl)) (pss_one (ps_expr (pe_call (ok_step_right T) (hr.mono (by decide)) (by rfl) T.t_step_right.g T.t_step_right.F.kp T.t_step_right.b .nil pass0 (pa_cons (pv 0) (pa_cons (pv 2) pa_nil))))))
      (pss_one (ps_ret (pe_call (ok_unwished T) (hr.mono (by decide)) (by rfl) T.t_unwished.g T.t_unwished.F.kp T.t_unwished.b .nil pass0 (pa_cons (pv 0) pa_nil))))))), ?_⟩
    dsimp only [tRet, tRetN, tChain, tOp, tUn, tC, tVar, tSeq, tIfS, tAsg, gName, tTest, tB, tAnd, tOr, tNot, tAndV, tOrV, tNotV, tFld_eq, sFld_eq, sFldAug, L2.rAdd, L2.rSub, tCons, tNil, tLst, tTup, tCall, tMake, tCB, tCKw, tBM, tSl, tPart, tNoPart, tDrop, tNext, tBreak, iList, iRng1, iEnum, gTup, gCons, gNil, tAug, ipI, rI0, rI, rU, cxOf, Cx.nox, Cx.wish, L2.start, List.map, List.length, List.replicate, List.append]
    obtain ⟨S, W, ht, hn, hc, hav, a, k⟩ := h
    obtain ⟨n, rfl, rfl⟩ := in10 hc
    refine ⟨_, rfl, td0 ht ?_⟩
    refine ⟨_, _, rfl, rfl, _, rfl, ifd (fun c1 => ?_) (fun c1 => ?_)⟩
    · exact ⟨1, rfl, fun p np => (k.to (r := (g, [-1])) (if_pos (show 100 < n by omega))).ref S W a np⟩
    have k1 := k.to (if_neg (show ¬ 100 < n by omega))
    have kp := several_keeps right_keeps (fun _ h => WF0.right h) W.toWF0
    refine ⟨_, rfl, s, dx, lk, L, F, ls, ts, g, rfl, S, W.n2, fun H1 q s1 nq hq => ?_⟩
    have S1 := S.same s1
    have ht1 := s1 _ _ ht
    refine w_for ?_
    refine ⟨_, rfl, td0 ht1 ?_⟩
    refine ⟨_, rfl, by omega, by omega, ?_⟩
    refine forG_range (n := n) (fun i σ H' => (∃ v, σ = [some (.ref s), some (.ref t), some (.ref q), v]) ∧ But s H H' ∧ StAt A H' s dx lk L F ls ts (Ue07.several Ue07.oneRight i g) ∧ H' q = some (.lst (nV (Ue07.seen g.folds g.lines.length)))) ⟨⟨_, rfl⟩, same_but s1 s, S1, hq⟩ ?_ ?_
    · rintro i σ H' hi ⟨⟨v, rfl⟩, b1, S2, hq2⟩
      obtain ⟨e1, e2, W2⟩ := kp i
      refine ⟨_, rfl, _, rfl, s, dx, lk, L, F, ls, ts, _, q, rfl, S2, W2, by rw [e1, e2]; exact hq2, fun H3 b3 S3 => ?_⟩
      exact ⟨⟨_, rfl⟩, b1.trans b3, by rw [several_succ]; exact S3, S2.but_lst b3 hq2⟩
    · rintro σ H' ⟨⟨v, rfl⟩, b1, S2, hq2⟩
      have W2 := (kp n).2.2.wish none
      refine ⟨_, rfl, s, dx, lk, L, F, ls, ts, _, rfl, S2, W2, ?_⟩
      exact k1.but W2.scrolled a b1 S2.o
end
end FV
namespace FV
open PySem PySem.Spec PyProof.Rows L2
theorem sorted_exists (l : List (Nat × Nat)) : ∃ ys : List (Nat × Nat), ys.Perm l ∧ ys.Pairwise (fun a b => b.1 ≤ a.1) := by
  induction l with
  | nil => exact ⟨[], .nil, .nil⟩
  | cons x l ih =>
    obtain ⟨ys, hp, hs⟩ := ih
    refine ⟨ys.filter (fun y => decide (x.1 < y.1)) ++ x :: ys.filter (fun y => !decide (x.1 < y.1)), ?_, ?_⟩
    · refine List.perm_middle.trans (.cons x ?_)
      exact (List.filter_append_perm _ _).trans hp
    · rw [List.pairwise_append, List.pairwise_cons]
      refine ⟨hs.filter _, ⟨fun y hy => ?_, hs.filter _⟩, fun y hy z hz => ?_⟩
      · have := (List.mem_filter.mp hy).2
        simp at this
        omega
      · have h1 := of_decide_eq_true (List.mem_filter.mp hy).2
        rcases List.mem_cons.mp hz with rfl | hz
        · omega
        · have := (List.mem_filter.mp hz).2
          simp at this
          omega
section
variable {P : Program} {w : World} {K : PySem.W.Frag} {mg : Str → Option Value} {base : Heap} {A : Ad}
variable {H H' : Hp} {s dx lk L F av : Addr} {ls ts : List V} {g g' : Ue07.St} {Q : VK} {ans : List Int}
def sp_move_point_by_edit (A : Ad) : Sp := fun vs H Q _ => ∃ (s dx lk L F : Addr) (ls ts : List V) (g : Ue07.St) (a b n : Nat), vs = [.ref s, .int a, .int b, .int ((n : Int) - ((b : Int) - (a : Int)))] ∧ StAt A H s dx lk L F ls ts g ∧ 1 ≤ g.lines.length ∧ a ≤ b ∧
  (b ≤ g.line → ∀ H', But s H H' → StAt A H' s dx lk L F ls ts { g with line := g.line + n - (b - a) } → Q .non H') ∧
  (g.line < b → a ≤ g.line → ∀ H' ys, ys.Perm g.folds → ys.Pairwise (fun a b => b.1 ≤ a.1) → But s H H' → StAt A H' s dx lk L F ls ts { g with line := (bpo g.lines ys (min a (g.lines.length - 1), 0)).1, place := (bpo g.lines ys (min a (g.lines.length - 1), 0)).2 } → Q .non H') ∧
  (g.line < b → g.line < a → Q .non H)
theorem sc_move_point_by_edit : FnScope ["state", "begin", "behind", "grown"] ["state", "begin", "behind", "grown"] (defScope s_move_point_by_edit) := ⟨rfl, rfl, rfl, by decide +kernel, rfl, by decide +kernel, by decide +kernel⟩
-- slots of move_point_by_edit: state 0, begin 1, behind 2, grown 3
theorem ok_move_point_by_edit (T : Tx K mg A) : FnOk P w K mg base CX0 3 A.f_move_point_by_edit A.d_move_point_by_edit ["state", "begin", "behind", "grown"] (sp_move_point_by_edit A) := by
  refine T.t_move_point_by_edit.F.ok sc_move_point_by_edit (fun vs H Q E h => ?_) (fun cdv Ar outer s0 H vs Q E hr h => ?_)
  · obtain ⟨s, dx, lk, L, F, ls, ts, g, a, b, n, rfl, _⟩ := h
    rfl
  · obtain ⟨s, dx, lk, L, F, ls, ts, g, a, b, n, rfl, h⟩ := h
    refine ⟨_, (pss_one (ps_if (pt_cmpR op_ge (pe_fld (pv 0) rfl) (pv 2) (nomark _)) (pss_one (ps_fldaug (pv 0) (pv 3) in_add)) (pss_one (ps_if (pt_cmpR op_ge (pe_fld (pv 0) rfl) (pv 1) (nomark _)) (pss_cons (ps_fld (pv 0) (pe_callB (call_min2 rfl) (by rfl) T.z_min (by decide +kernel) (pa_cons (pv 1) (pa_cons (pe_op op_sub (pe_callB call_len_seq (by rfl) T.z_len PySem.boot_len (pa_cons (pe_fld (pv 0) rfl) pa_nil)) (pe_int)) pa_nil))) rfl)
      (pss_cons (ps_fld (pv 0) (pe_int) rfl)
      (pss_one (ps_expr (pe_call (ok_bring_point_out T) (hr.mono (by decide)) (by rfl) T.t_bring_point_out.g T.t_bring_point_out.F.kp T.t_bring_point_out.b .nil pass0 (pa_cons (pv 0) pa_nil)))))) pss_nil)))), ?_⟩
    dsimp only [tRet, tRetN, tChain, tOp, tUn, tC, tVar, tSeq, tIfS, tAsg, gName, tTest, tB, tAnd, tOr, tNot, tAndV, tOrV, tNotV, tFld_eq, sFld_eq, sFldAug, L2.rAdd, L2.rSub, tCons, tNil, tLst, tTup, tCall, tMake, tCB, tCKw, tBM, tSl, tPart, tNoPart, tDrop, tNext, tBreak, iList, iRng1, iEnum, gTup, gCons, gNil, tAug, ipI, rI0, rI, rU, cxOf, Cx.nox, Cx.wish, L2.start, List.map, List.length, List.replicate, List.append]
    obtain ⟨S, h1, hab, k1, k2, k3⟩ := h
    have hls := S.lA.len
    refine ⟨_, rfl, r_State_line T S.o ?_⟩
    refine ⟨_, rfl, _, _, rfl, rfl, _, rfl, ifd (fun c1 => ?_) (fun c1 => ?_)⟩
    · refine ⟨_, rfl, s, _, dx, _, _, rfl, S.o, T.t_State.c, T.n_State_line, look_State_line .., _, rfl, _, _, rfl, rfl, dx, _, S.o, (by show 9 < 1000; decide), ?_⟩
      rw [show (g.line : Int) + ((n : Int) - ((b : Int) - (a : Int))) = ((g.line + n - (b - a) : Nat) : Int) by omega, put_State_line]
      exact k1 (by omega) _ but_upd (S.store S.k S.l S.lA S.f S.fA S.n S.m)
    · refine ⟨_, rfl, r_State_line T S.o ?_⟩
      refine ⟨_, rfl, _, _, rfl, rfl, _, rfl, ifd (fun c2 => ?_) (fun c2 => ?_)⟩
      · refine ⟨_, rfl, _, rfl, r_State_lines T S.o ?_⟩
        refine ⟨L, _, rfl, .inl (SqL.of S.l), ?_⟩
        rw [hls]
        refine ⟨_, _, rfl, rfl, _, _, rfl, ?_⟩
        rw [show (g.lines.length : Int) - 1 = ((g.lines.length - 1 : Nat) : Int) by omega, min2]
        refine ⟨_, rfl, st_line T S fun H1 b1 S1 => ?_⟩
        refine ⟨_, rfl, st_place T S1 (n := 0) fun H2 b2 S2 => ?_⟩
        refine ⟨_, rfl, s, dx, lk, L, F, ls, ts, _, rfl, S2, ?_, fun H3 ys hp hs b3 S3 => ?_⟩
        · show min a (g.lines.length - 1) < g.lines.length
          omega
        · exact k2 (by omega) (by omega) H3 ys hp hs ((b1.trans b2).trans b3) S3
      · exact k3 (by omega) (by omega)
theorem sc_call_edit : FnScope ["state", "told", "begin", "behind", "lines", "grown"] ["state", "told"] (defScope s_call_edit) := ⟨rfl, rfl, rfl, by decide +kernel, rfl, by decide +kernel, by decide +kernel⟩
-- slots of call_edit: state 0, told 1, begin 2, behind 3, lines 4, grown 5
theorem ok_call_edit (T : Tx K mg A) : FnOk P w K mg base CX0 8 A.f_call_edit A.d_call_edit ["state", "told"] (spCall A 3) := by
  refine T.t_call_edit.F.ok sc_call_edit (fun vs H Q E h => ?_) (fun cdv Ar outer s0 H vs Q E hr h => ?_)
  · obtain ⟨s, dx, lk, L, F, ls, ts, g, t, av, ns, x, rfl, _⟩ := h
    rfl
  · obtain ⟨s, dx, lk, L, F, ls, ts, g, t, av, ns, x, rfl, h⟩ := h
    refine ⟨_, (pss_cons (ps_set (i := 2) sc_call_edit.nd rfl (.inl rfl) (pe_ix ix_list (pv 1) (pe_int) (fun _ _ => rfl)))
      (pss_cons (ps_set (i := 3) sc_call_edit.nd rfl (.inl rfl) (pe_ix ix_list (pv 1) (pe_int) (fun _ _ => rfl)))
      (pss_cons (ps_set (i := 4) sc_call_edit.nd rfl (.inl rfl) (pe_call (ok_split_lines T) (hr.mono (by decide)) (by rfl) T.t_split_lines.g T.t_split_lines.F.kp T.t_split_lines.b .nil pass0 (pa_cons (pe_slice sl_list (pv 1) (po_some (pe_int)) po_none) pa_nil)))
      (pss_cons (ps_if (PW.pt (pw_or (pt_cmpR op_lt (pv 3) (pv 2) (nomark _)) (pw_or (pt_cmpR op_gt (pv 3) (pe_callB call_len_seq (by rfl) T.z_len PySem.boot_len (pa_cons (pe_fld (pv 0) rfl) pa_nil)) (nomark _)) (pw_or1 (pt_not (pt_val (pe_call (ok_are_lines T) (hr.mono (by decide)) (by rfl) T.t_are_lines.g T.t_are_lines.F.kp T.t_are_lines.b .nil pass0 (pa_cons (pv 4) pa_nil)))))))) (pss_one (ps_ret (pe_call (ok_refused T) (hr.mono (by decide)) (by rfl) T.t_refused.g T.t_refused.F.kp T.t_refused.b .nil pass0 (pa_cons (pe_gi rfl T.v_WRONG) pa_nil)))) pss_nil)
      (pss_cons (ps_set (i := 5) sc_call_edit.nd rfl (.inl rfl) (pe_op op_sub (pe_callB call_len_seq (by rfl) T.z_len PySem.boot_len (pa_cons (pv 4) pa_nil)) (pe_op op_sub (pv 3) (pv 2))))
      (pss_cons (ps_if (pt_not (pt_chain op_le op_le (pe_int) (pe_op op_add (pe_callB call_len_seq (by rfl) T.z_len PySem.boot_len (pa_cons (pe_fld (pv 0) rfl) pa_nil)) (pv 5)) (pe_gi rfl T.v_MOST_LINES))) (pss_one (ps_ret (pe_call (ok_refused T) (hr.mono (by decide)) (by rfl) T.t_refused.g T.t_refused.F.kp T.t_refused.b .nil pass0 (pa_cons (pe_gi rfl T.v_FULL) pa_nil)))) pss_nil)
      (pss_cons (ps_fld (pv 0) (pe_op op_cat (pe_op op_cat (pe_slice sl_list (pe_fld (pv 0) rfl) po_none (po_some (pv 2))) (pv 4)) (pe_slice sl_list (pe_fld (pv 0) rfl) (po_some (pv 3)) po_none)) rfl)
      (pss_cons (ps_fld (pv 0) (pe_call (ok_folds_after_edit T) (hr.mono (by decide)) (by rfl) T.t_folds_after_edit.g T.t_folds_after_edit.F.kp T.t_folds_after_edit.b .nil pass0 (pa_cons (pe_fld (pv 0) rfl) (pa_cons (pv 2) (pa_cons (pv 3) (pa_cons (pv 5) pa_nil))))) rfl)
      (pss_cons (ps_expr (pe_call (ok_move_point_by_edit T) (hr.mono (by decide)) (by rfl) T.t_move_point_by_edit.g T.t_move_point_by_edit.F.kp T.t_move_point_by_edit.b .nil pass0 (pa_cons (pv 0) (pa_cons (pv 2) (pa_cons (pv 3) (pa_cons (pv 5) pa_nil))))))
      (pss_one (ps_ret (pe_call (ok_unwished T) (hr.mono (by decide)) (by rfl) T.t_unwished.g T.t_unwished.F.kp T.t_unwished.b .nil pass0 (pa_cons (pv 0) pa_nil))))))))))))), ?_⟩
    dsimp only [tRet, tRetN, tChain, tOp, tUn, tC, tVar, tSeq, tIfS, tAsg, gName, tTest, tB, tAnd, tOr, tNot, tAndV, tOrV, tNotV, tFld_eq, sFld_eq, sFldAug, L2.rAdd, L2.rSub, tCons, tNil, tLst, tTup, tCall, tMake, tCB, tCKw, tBM, tSl, tPart, tNoPart, tDrop, tNext, tBreak, iList, iRng1, iEnum, gTup, gCons, gNil, tAug, ipI, rI0, rI, rU, cxOf, Cx.nox, Cx.wish, L2.start, List.map, List.length, List.replicate, List.append]
    obtain ⟨S, W, ht, hn, hc, hav, a, k⟩ := h
    obtain ⟨b0, e0, r, l, rfl, hl, rfl⟩ := in3 hc
    have hls := S.lA.len
    have hn2 := W.n2
    refine ⟨_, rfl, td0 ht ?_⟩
    refine ⟨_, rfl, td1 ht ?_⟩
    refine ⟨_, rfl, _, rfl, t, _, rfl, SqL.of ht, fun c nc => ?_⟩
    have ec : cutV (nV (b0 :: e0 :: r)) (some 2) none = nV r := cut_from (nV (b0 :: e0 :: r)) 2
    rw [ec]
    have s1 : Same H (upd H c (.lst (nV r))) := same_upd nc
    refine ⟨c, r, l, _, rfl, upd_same, by rw [List.length_cons, List.length_cons] at hn; omega, hl, fun H2 p xs s2 np hp hA hfr hxr => ?_⟩
    have s02 := s1.trans s2
    have S2 := S.same s02
    have hxl := hA.len
    have h4 : xs.length ≤ 4000 := by rw [List.length_cons, List.length_cons] at hn; omega
    have npH : H p = none := s1.free np
    have R1 : ∀ H3, Same H H3 → (e0 < b0 ∨ g.lines.length < e0 ∨ Ue07.isLines l = false) → sp_refused [.int 1] H3 Q E0 := fun H3 s3 e => ⟨1, rfl, fun z nz => (k.to (r := (g, [-1])) (if_pos e)).refS S W a s3 nz⟩
    refine ⟨_, rfl, _, rfl, _, _, rfl, rfl, _, rfl, ifd (fun c1 => iteT (R1 H2 s02 (.inl (by omega)))) (fun c1 => ?_)⟩
    refine ⟨_, rfl, _, rfl, r_State_lines T S2.o ?_⟩
    refine ⟨L, _, rfl, .inl (SqL.of S2.l), _, _, rfl, rfl, _, rfl, ifd (fun c2 => iteT (R1 H2 s02 (.inr (.inl (by omega))))) (fun c2 => ?_)⟩
    refine ⟨_, rfl, p, xs, l, rfl, hp, hA, h4, fun H3 s3 => ⟨_, rfl, ?_⟩⟩
    have s03 := s02.trans s3
    cases eI : Ue07.isLines l with
    | false => exact iteT (R1 H3 s03 (.inr (.inr eI)))
    | true =>
    refine iteF ?_
    have hab : b0 ≤ e0 := by omega
    have hb : e0 ≤ g.lines.length := by omega
    have S3 := S2.same s3
    have hp3 := s3 _ _ hp
    have hA3 := lns_same s3 hA
    have hno : ¬ (e0 < b0 ∨ g.lines.length < e0 ∨ Ue07.isLines l = false) := by
      rintro (h | h | h)
      · omega
      · omega
      · rw [eI] at h; cases h
    have k1 : Fin A H s dx F av (if g.lines.length + l.length - (e0 - b0) = 0 ∨ 30 < g.lines.length + l.length - (e0 - b0) then (g, [-5]) else Ue07.answers (Ue07.settled { g with lines := g.lines.take b0 ++ (l ++ g.lines.drop e0), folds := Ue07.foldsBehind g.folds b0 e0 l.length, line := (if g.line < b0 then g.line else if e0 ≤ g.line then g.line + l.length - (e0 - b0) else b0), place := (if b0 ≤ g.line ∧ g.line < e0 then 0 else g.place), wish := none })).1
        (if g.lines.length + l.length - (e0 - b0) = 0 ∨ 30 < g.lines.length + l.length - (e0 - b0) then (g, [-5]) else Ue07.answers (Ue07.settled { g with lines := g.lines.take b0 ++ (l ++ g.lines.drop e0), folds := Ue07.foldsBehind g.folds b0 e0 l.length, line := (if g.line < b0 then g.line else if e0 ≤ g.line then g.line + l.length - (e0 - b0) else b0), place := (if b0 ≤ g.line ∧ g.line < e0 then 0 else g.place), wish := none })).2 Q := k.to (if_neg hno)
    refine ⟨_, rfl, p, _, rfl, .inl (SqL.of hp3), _, rfl, _, rfl, _, _, rfl, rfl, _, _, rfl, rfl, ?_⟩
    rw [hxl]
    refine ⟨_, rfl, r_State_lines T S3.o ?_⟩
    refine ⟨L, _, rfl, .inl (SqL.of S3.l), _, rfl, _, _, rfl, rfl, ?_⟩
    rw [hls]
    have R5 : (g.lines.length + l.length - (e0 - b0) = 0 ∨ 30 < g.lines.length + l.length - (e0 - b0)) → sp_refused [.int 5] H3 Q E0 := fun e => by
      rw [if_pos e] at k1
      exact ⟨5, rfl, fun z nz => k1.refS S W a s03 nz⟩
    refine ⟨_, _, rfl, rfl, _, rfl, ifd (fun c3 => ⟨_, _, rfl, rfl, _, rfl, ifnd (fun c4 => R5 (by omega)) (fun c4 => ?_)⟩) (fun c3 => ⟨_, rfl, iteT (R5 (by omega))⟩)⟩
    have h1 : 1 ≤ g.lines.length + l.length - (e0 - b0) := by omega
    have h30 : g.lines.length + l.length - (e0 - b0) ≤ 30 := by omega
    rw [if_neg (show ¬ (g.lines.length + l.length - (e0 - b0) = 0 ∨ 30 < g.lines.length + l.length - (e0 - b0)) by omega)] at k1
    -- the lines
    refine ⟨_, rfl, r_State_lines T S3.o ?_⟩
    refine ⟨_, rfl, _, rfl, L, _, rfl, SqL.of S3.l, fun d1 nd1 => ?_⟩
    rw [cut_to]
    have s4 : Same H3 (upd H3 d1 (.lst (ls.take b0))) := same_upd nd1
    have hd1 : (upd H3 d1 (.lst (ls.take b0))) d1 = some (.lst (ls.take b0)) := upd_same
    generalize upd H3 d1 (.lst (ls.take b0)) = H4 at s4 hd1
    refine ⟨_, rfl, d1, p, _, _, rfl, rfl, hd1, s4 _ _ hp3, sz (by rw [List.length_take]; omega), fun d2 nd2 => ?_⟩
    have s5 : Same H4 (upd H4 d2 (.lst (ls.take b0 ++ xs))) := same_upd nd2
    have hd2 : (upd H4 d2 (.lst (ls.take b0 ++ xs))) d2 = some (.lst (ls.take b0 ++ xs)) := upd_same
    generalize upd H4 d2 (.lst (ls.take b0 ++ xs)) = H5 at s5 hd2
    have S5 := S3.same (s4.trans s5)
    refine ⟨_, rfl, r_State_lines T S5.o ?_⟩
    refine ⟨_, rfl, _, rfl, L, _, rfl, SqL.of S5.l, fun d3 nd3 => ?_⟩
    rw [cut_from]
    have s6 : Same H5 (upd H5 d3 (.lst (ls.drop e0))) := same_upd nd3
    have hd3 : (upd H5 d3 (.lst (ls.drop e0))) d3 = some (.lst (ls.drop e0)) := upd_same
    generalize upd H5 d3 (.lst (ls.drop e0)) = H6 at s6 hd3
    refine ⟨d2, d3, _, _, rfl, rfl, s6 _ _ hd2, hd3, sz (by rw [List.length_append, List.length_take, List.length_drop]; omega), fun L' nL' => ?_⟩
    have s7 : Same H6 (upd H6 L' (.lst (ls.take b0 ++ xs ++ ls.drop e0))) := same_upd nL'
    have hL' : (upd H6 L' (.lst (ls.take b0 ++ xs ++ ls.drop e0))) L' = some (.lst (ls.take b0 ++ xs ++ ls.drop e0)) := upd_same
    generalize upd H6 L' (.lst (ls.take b0 ++ xs ++ ls.drop e0)) = H7 at s7 hL'
    have s36 : Same H3 H6 := (s4.trans s5).trans s6
    have s37 : Same H3 H7 := s36.trans s7
    have S7 := S3.same s37
    have hA7 : All2 (LnV H7) (ls.take b0 ++ xs ++ ls.drop e0) (linesE g.lines b0 e0 l) := by
      unfold linesE
      rw [← List.append_assoc]
      exact ((S7.lA.take b0).append (lns_same s37 hA3)).append (S7.lA.drop e0)
    have notin : ∀ z, H z ≠ none → V.ref z ∉ ls → V.ref z ∉ ls.take b0 ++ xs ++ ls.drop e0 := fun z hz hzl hm => by
      rcases List.mem_append.mp hm with h | h
      · rcases List.mem_append.mp h with h | h
        · exact hzl (List.mem_of_mem_take h)
        · refine hfr z (fun e => hz ?_) h
          exact s1.free e
      · exact hzl (List.mem_of_mem_drop h)
    have hF : H F ≠ none := by rw [S.f]; intro z; cases z
    have nLH : H L' = none := (s03.trans s36).free nL'
    refine ⟨_, rfl, st_lines T S7 hL' hA7 (notin F hF S.n) (fun e => hF (by rw [← e]; exact nLH)) fun H8 b8 S8 => ?_⟩
    -- the folds
    have b08 : But s H H8 := (same_but (s03.trans s37) s).trans b8
    refine ⟨_, rfl, r_State_folds T S8.o ?_⟩
    refine ⟨_, rfl, _, rfl, _, rfl, F, ts, g.folds, b0, e0, l.length, rfl, S8.f, S8.fA, W.fl, W.fw, hab, fun H9 F' ts' s9 nF' hF' hA9 hav9 => ?_⟩
    have S9 := S8.same s9
    have hnl : V.ref F' ∉ ls.take b0 ++ xs ++ ls.drop e0 := fun h => by
      obtain ⟨w, _, b, e, hb⟩ := S8.lA.left _ h
      cases e
      rw [nF'] at hb
      cases hb
    have hnL : L' ≠ F' := fun e => by rw [← e, S8.l] at nF'; cases nF'
    refine ⟨_, rfl, st_folds T S9 hF' hA9 hnl hnL fun H10 b10 S10 => ?_⟩
    have b010 : But s H H10 := (b08.trans (same_but s9 s)).trans b10
    have nFH : H F' = none := b08.free (by rw [S8.o]; intro z; cases z) nF'
    have hav8 : H8 av ≠ none := by
      by_cases e : av = s
      · rw [e, S8.o]; intro z; cases z
      · cases q : H av with
        | none => exact absurd q hav
        | some o => rw [b08 _ _ q e]; intro z; cases z
    have a' : Av av lk L' F' (ls.take b0 ++ xs ++ ls.drop e0) ts' := ⟨a.k, ne_av hav nLH, ne_av hav nFH, notin av hav a.ls, hav9 av hav8 a.ts⟩
    have fin : ∀ (H11 : Hp) (ys : List (Nat × Nat)) (p : Nat × Nat), ys.Perm (Ue07.foldsBehind g.folds b0 e0 l.length) → ys.Pairwise (fun a b => b.1 ≤ a.1) → p = eP g b0 e0 l ys → But s H10 H11 → StAt A H11 s dx lk L' F' (ls.take b0 ++ xs ++ ls.drop e0) ts' { g with lines := linesE g.lines b0 e0 l, folds := Ue07.foldsBehind g.folds b0 e0 l.length, line := p.1, place := p.2 } → sp_unwished A [.ref s] H11 Q E0 := fun H11 ys p hp hs ep b11 S11 => by
      obtain ⟨e1, W1⟩ := edit_point W.toWF0 hab hb eI h1 h30 hp hs
      rw [e1] at k1
      rw [← ep] at k1 W1
      exact ⟨s, dx, lk, L', F', _, ts', _, rfl, S11, W1, k1.but W1.scrolled a' (b010.trans b11) S11.o⟩
    have hl1 : (linesE g.lines b0 e0 l).length = g.lines.length + l.length - (e0 - b0) := linesE_len hab hb
    obtain ⟨ys0, hp0, hs0⟩ := sorted_exists (Ue07.foldsBehind g.folds b0 e0 l.length)
    refine ⟨_, rfl, _, rfl, _, rfl, _, rfl, s, dx, lk, L', F', _, ts', _, b0, e0, l.length, rfl, S10, by show 1 ≤ (linesE g.lines b0 e0 l).length; omega, hab, fun q1 H11 b11 S11 => ?_, fun q1 q2 H11 ys hp hs b11 S11 => ?_, fun q1 q2 => ?_⟩
    · refine ⟨_, rfl, fin H11 ys0 (g.line + l.length - (e0 - b0), g.place) hp0 hs0 ?_ b11 S11⟩
      exact (if_pos q1).symm
    · refine ⟨_, rfl, fin H11 ys _ hp hs ?_ b11 S11⟩
      unfold eP
      rw [if_neg (show ¬ e0 ≤ g.line from Nat.not_le.mpr q1), if_pos (show b0 ≤ g.line from q2)]
    · refine ⟨_, rfl, fin H10 ys0 (g.line, g.place) hp0 hs0 ?_ (But.refl _ _) S10⟩
      unfold eP
      rw [if_neg (show ¬ e0 ≤ g.line from Nat.not_le.mpr q1), if_neg (show ¬ b0 ≤ g.line from Nat.not_le.mpr q2)]
theorem clash_eq (f o : Nat × Nat) : clash f o = (decide (f = o) || !Ue07.nests o f) := by
  unfold clash
  congr 2
  unfold Ue07.nests apart within
  cases decide (f.2 ≤ o.1) <;> cases decide (o.2 ≤ f.1) <;> cases decide (o.1 ≤ f.1) <;> cases decide (f.2 ≤ o.2) <;> cases decide (f.1 ≤ o.1) <;> cases decide (o.2 ≤ f.2) <;> rfl
theorem sc_call_fold : FnScope ["state", "told", "fold", "other"] ["state", "told"] (defScope s_call_fold) := ⟨rfl, rfl, rfl, by decide +kernel, rfl, by decide +kernel, by decide +kernel⟩
-- slots of call_fold: state 0, told 1, fold 2, other 3
theorem ok_call_fold (T : Tx K mg A) : FnOk P w K mg base CX0 8 A.f_call_fold A.d_call_fold ["state", "told"] (spCall A 4) := by
  refine T.t_call_fold.F.ok sc_call_fold (fun vs H Q E h => ?_) (fun cdv Ar outer s0 H vs Q E hr h => ?_)
  · obtain ⟨s, dx, lk, L, F, ls, ts, g, t, av, ns, x, rfl, _⟩ := h
    rfl
  · obtain ⟨s, dx, lk, L, F, ls, ts, g, t, av, ns, x, rfl, h⟩ := h
    refine ⟨_, (pss_cons (ps_set (i := 2) sc_call_fold.nd rfl (.inl rfl) (pe_tup (pa_cons (pe_ix ix_list (pv 1) (pe_int) (fun _ _ => rfl)) (pa_cons (pe_ix ix_list (pv 1) (pe_int) (fun _ _ => rfl)) pa_nil))))
      (pss_cons (ps_if (PW.pt (pw_or (pt_cmpR op_lt (pe_op op_sub (pe_ix ix_tup (pv 2) (pe_int) (fun _ _ => rfl)) (pe_ix ix_tup (pv 2) (pe_int) (fun _ _ => rfl))) (pe_int) (nomark _)) (pw_or1 (pt_cmpR op_gt (pe_ix ix_tup (pv 2) (pe_int) (fun _ _ => rfl)) (pe_callB call_len_seq (by rfl) T.z_len PySem.boot_len (pa_cons (pe_fld (pv 0) rfl) pa_nil)) (nomark _))))) (pss_one (ps_ret (pe_call (ok_refused T) (hr.mono (by decide)) (by rfl) T.t_refused.g T.t_refused.F.kp T.t_refused.b .nil pass0 (pa_cons (pe_gi rfl T.v_WRONG) pa_nil)))) pss_nil)
      (pss_cons (ps_for PassesOwn.never rfl (pi_list (pe_fld (pv 0) rfl)) (pg_name (i := 3) sc_call_fold.nd rfl (.inl rfl)) (pss_one (ps_if (pt_val (pe_call (ok_clashes T) (hr.mono (by decide)) (by rfl) T.t_clashes.g T.t_clashes.F.kp T.t_clashes.b .nil pass0 (pa_cons (pv 2) (pa_cons (pv 3) pa_nil)))) (pss_one (ps_ret (pe_call (ok_refused T) (hr.mono (by decide)) (by rfl) T.t_refused.g T.t_refused.F.kp T.t_refused.b .nil pass0 (pa_cons (pe_gi rfl T.v_CLASH) pa_nil)))) pss_nil)))
      (pss_cons (ps_if (pt_cmpR op_ge (pe_callB call_len_seq (by rfl) T.z_len PySem.boot_len (pa_cons (pe_fld (pv 0) rfl) pa_nil)) (pe_gi rfl T.v_MOST_FOLDS) (nomark _)) (pss_one (ps_ret (pe_call (ok_refused T) (hr.mono (by decide)) (by rfl) T.t_refused.g T.t_refused.F.kp T.t_refused.b .nil pass0 (pa_cons (pe_gi rfl T.v_FULL) pa_nil)))) pss_nil)
      (pss_cons (ps_expr (pe_bm PySem.F.plainAttrs_list PySem.F.slot_list_append PySem.F.type_list_append mt_append (pe_fld (pv 0) rfl) (pa_cons (pv 2) pa_nil)))
      (pss_cons (ps_expr (pe_call (ok_bring_point_out T) (hr.mono (by decide)) (by rfl) T.t_bring_point_out.g T.t_bring_point_out.F.kp T.t_bring_point_out.b .nil pass0 (pa_cons (pv 0) pa_nil)))
      (pss_one (ps_ret (pe_call (ok_unwished T) (hr.mono (by decide)) (by rfl) T.t_unwished.g T.t_unwished.F.kp T.t_unwished.b .nil pass0 (pa_cons (pv 0) pa_nil)))))))))), ?_⟩
    dsimp only [tRet, tRetN, tChain, tOp, tUn, tC, tVar, tSeq, tIfS, tAsg, gName, tTest, tB, tAnd, tOr, tNot, tAndV, tOrV, tNotV, tFld_eq, sFld_eq, sFldAug, L2.rAdd, L2.rSub, tCons, tNil, tLst, tTup, tCall, tMake, tCB, tCKw, tBM, tSl, tPart, tNoPart, tDrop, tNext, tBreak, iList, iRng1, iEnum, gTup, gCons, gNil, tAug, ipI, rI0, rI, rU, cxOf, Cx.nox, Cx.wish, L2.start, List.map, List.length, List.replicate, List.append]
    obtain ⟨S, W, ht, hn, hc, hav, a, k⟩ := h
    obtain ⟨b0, e0, rfl, rfl⟩ := in4 hc
    have hls := S.lA.len
    have hfl := S.fA.len
    refine ⟨_, rfl, td0 ht ?_⟩
    refine ⟨_, rfl, td1 ht ?_⟩
    refine ⟨sz (by decide), fun f nf => ?_⟩
    have s1 : Same H (upd H f (.tup [.int b0, .int e0])) := same_upd nf
    have hf : FdAt (upd H f (.tup [.int b0, .int e0])) f (b0, e0) := upd_same
    generalize upd H f (.tup [.int b0, .int e0]) = H1 at s1 hf
    have S1 := S.same s1
    have R : (e0 < b0 + 2 ∨ g.lines.length < e0) → sp_refused [.int 1] H1 Q E0 := fun e => ⟨1, rfl, fun p np => (k.to (r := (g, [-1])) (if_pos e)).refS S W a s1 np⟩
    refine ⟨_, rfl, fd1 hf ⟨_, rfl, fd0 hf ⟨_, _, rfl, rfl, _, _, rfl, rfl, _, rfl, ifd (fun c1 => iteT (R (.inl (by simp only at c1; omega)))) (fun c1 => ?_)⟩⟩⟩
    simp only at c1
    refine ⟨_, rfl, fd1 hf ⟨_, rfl, r_State_lines T S1.o ?_⟩⟩
    refine ⟨L, _, rfl, .inl (SqL.of S1.l), _, _, rfl, rfl, _, rfl, ifd (fun c2 => R (.inr (by simp only at c2; omega))) (fun c2 => ?_)⟩
    simp only at c2
    have k1 := k.to (if_neg (show ¬ (e0 < b0 + 2 ∨ g.lines.length < e0) by omega))
    refine w_for ?_
    refine ⟨_, rfl, r_State_folds T S1.o ?_⟩
    refine ⟨F, rfl, ⟨_, SqL.of S1.f⟩, ?_⟩
    refine forG_list (xs := ts) (fun i σ H' => H' = H1 ∧ (∃ v, σ = [some (.ref s), some (.ref t), some (.ref f), v]) ∧ ∀ o ∈ g.folds.take i, clash (b0, e0) o = false) ⟨rfl, ⟨_, rfl⟩, fun o h => by cases h⟩ (fun i σ H' _ ⟨e, _⟩ => by rw [e]; exact SqL.of S1.f) ?_ ?_
    · rintro i x σ H' hx ⟨rfl, ⟨v, rfl⟩, hno⟩
      obtain ⟨o, ho, b, rfl, hb⟩ := S1.fA.get hx
      have hom := List.mem_of_getElem? ho
      refine ⟨_, rfl, _, rfl, f, b, (b0, e0), o, rfl, hf, hb, _, rfl, ifb (fun c3 => ?_) (fun c3 => ?_)⟩
      · have e : (g.folds.contains (b0, e0) || g.folds.any fun f => !Ue07.nests f (b0, e0)) = true := by
          rw [clash_eq, Bool.or_eq_true] at c3
          rw [Bool.or_eq_true]
          rcases c3 with h | h
          · left
            rw [List.contains_iff_mem, of_decide_eq_true h]
            exact hom
          · right
            exact List.any_eq_true.mpr ⟨o, hom, h⟩
        have k2 := k1
        rw [if_pos e] at k2
        exact ⟨4, rfl, fun p np => k2.refS S W a s1 np⟩
      · refine ⟨rfl, ⟨_, rfl⟩, fun o' ho' => ?_⟩
        rw [take_snoc ho, List.mem_append, List.mem_singleton] at ho'
        rcases ho' with h | rfl
        · exact hno o' h
        · exact c3
    · rintro σ H' ⟨rfl, ⟨v, rfl⟩, hno⟩
      rw [hfl, List.take_length] at hno
      have hnest : ∀ o ∈ g.folds, (b0, e0) ≠ o ∧ Ue07.nests o (b0, e0) = true := fun o ho => by
        have := hno o ho
        rw [clash_eq, Bool.or_eq_false_iff] at this
        exact ⟨of_decide_eq_false this.1, by simpa using this.2⟩
      have e : ¬ (g.folds.contains (b0, e0) || g.folds.any fun f => !Ue07.nests f (b0, e0)) = true := by
        rw [Bool.or_eq_true]
        rintro (h | h)
        · rw [List.contains_iff_mem] at h
          exact (hnest _ h).1 rfl
        · obtain ⟨o, ho, h⟩ := List.any_eq_true.mp h
          rw [(hnest o ho).2] at h
          cases h
      rw [if_neg e] at k1
      refine ⟨_, rfl, r_State_folds T S1.o ?_⟩
      refine ⟨F, _, rfl, .inl (SqL.of S1.f), ?_⟩
      rw [hfl]
      refine ⟨_, _, rfl, rfl, _, rfl, ifd (fun c4 => ?_) (fun c4 => ?_)⟩
      · rw [if_pos (by omega)] at k1
        exact ⟨5, rfl, fun p np => k1.refS S W a s1 np⟩
      rw [if_neg (by omega)] at k1
      refine ⟨_, rfl, r_State_folds T S1.o ?_⟩
      refine ⟨.inl ⟨rfl, _, SqL.of S1.f⟩, _, rfl, F, ts, _, rfl, rfl, S1.f, szl (by omega), ?_⟩
      have nF : ∀ {z : Addr} {o : HO}, H' z = some o → o ≠ .lst ts → z ≠ F := fun hz h => ne_of hz S1.f h
      have S3 : StAt A (upd H' F (.lst (ts ++ [.ref f]))) s dx lk L F ls (ts ++ [.ref f]) { g with folds := g.folds ++ [(b0, e0)] } := by
        obtain ⟨dk, hk⟩ := S1.k
        refine ⟨?_, ⟨dk, ?_⟩, ?_, lns_upd (fun y hy e => S1.n (by rw [← e]; exact hy)) S1.lA, upd_same, ?_, S1.n, S1.m⟩
        · rw [upd_ne (nF S1.o (by intro z; cases z))]
          exact S1.o
        · rw [upd_ne (nF hk (by intro z; cases z))]
          exact hk
        · rw [upd_ne S1.m]
          exact S1.l
        · have up : ∀ y o, y ∈ ts → FdV H' y o → FdV (upd H' F (.lst (ts ++ [.ref f]))) y o := fun y o _ r => by
            obtain ⟨z, rfl, hz⟩ := r
            exact ⟨z, rfl, by show upd H' F _ z = _; rw [upd_ne (nF hz (by intro z; cases z))]; exact hz⟩
          exact (S1.fA.mono up).snoc ⟨f, rfl, by show upd H' F _ f = _; rw [upd_ne (nF hf (by intro z; cases z))]; exact hf⟩
      refine ⟨_, rfl, s, dx, lk, L, F, ls, ts ++ [.ref f], { g with folds := g.folds ++ [(b0, e0)] }, rfl, S3, W.pl, fun H4 ys hp hs b4 S4 => ?_⟩
      obtain ⟨e1, W4⟩ := fold_point W.toWF0 (a := b0) (b := e0) (ys := ys) (by omega) (by omega) (by omega) (fun o ho => (hnest o ho).2) hp hs
      rw [e1] at k1
      refine ⟨_, rfl, s, dx, lk, L, F, ls, ts ++ [.ref f], _, rfl, S4, W4, ?_⟩
      refine k1.done W4.scrolled ⟨a.k, a.l, a.f, a.ls, fun h => ?_⟩ (fun b o hb n1 n2 => b4 _ _ (by rw [upd_ne n2]; exact s1 _ _ hb) n1) (fun q nq => ?_)
      · rcases List.mem_append.mp h with h | h
        · exact a.ts h
        · rw [List.mem_singleton] at h
          cases h
          exact hav nf
      · have h3 := b4.free (by rw [S4.o]; intro z; cases z) nq
        have n3 : q ≠ F := fun e => by rw [e, upd_same] at h3; cases h3
        rw [upd_ne n3] at h3
        exact s1.free h3
end
end FV
namespace L2
open PySem PySem.Spec PyProof.Rows
/-- a def that is called by its address: its promise goes with it -/
structure HeldX (P : Program) (w : World) (K : PySem.W.Frag) (mg : Str → Option Value) (base : Heap) (k : Nat) (f : Addr) (sp : Sp) : Prop where
  ex : ∃ (d : FuncData) (names : List Str), FnOk P w K mg base CX0 k f d names sp ∧ PySem.W.keepIn K (.ref f) = true ∧ Binds K d names []
def tCallX (S : Addr → Sp → Prop) (tf : TE) (t : TA) : TE := fun σ H Q => tf σ H fun x H1 => ∃ f sp, x = .ref f ∧ S f sp ∧ t σ H1 fun vs H2 => sp vs H2 Q E0
theorem pe_callX {X : Cx} {S : Addr → Sp → Prop} {k : Nat} {fp pos : Pos} {e a b : Expr} {es : List Expr} {tf : TE} {t : TA} (hS : ∀ f sp, S f sp → HeldX X.prog X.w X.K X.mg X.base k f sp) (hr : Room k X.A) (hf : PE X (.Subscript a b fp) tf) (ha : PA X (e :: es) t)
    (he : starEach (e :: es) X.env = (false, eval e X.env) :: starEach es X.env := by rfl) (hpl : (backTo pos (starEach es X.env)).any (·.1) = false := by rfl) : PE X (.Call (.Subscript a b fp) (e :: es) [] pos) (tCallX S tf t) := by
  refine ⟨fun pins s σ H Q I h => ?_⟩
  have arm : eval (.Call (.Subscript a b fp) (e :: es) [] pos) X.env = (do
    callWith pos (← eval (.Subscript a b fp) X.env) [] (backTo pos (starEach (e :: es) X.env)) (backToKw pos (keywordEach [] X.env))) := rfl
  rw [arm]
  refine wpAny_bind (thn (hf.run pins s σ H _ I h) fun u s1 ⟨x, H1, I1, r1, f, sp, ex, hd, q⟩ => ?_)
  subst ex
  cases r1
  obtain ⟨fd, ps, F, hk, hb⟩ := (hS f sp hd).ex
  refine PySem.W.callWith_K (h₀ := X.base) I.ok.mod.kin hk (thn (ha.run pos pins s1 σ _ _ I1 q) fun us s2 ⟨vs, H2, I2, r, q2⟩ => ⟨I2.kIn, ?_⟩) he hpl
  exact run_fn F hr hb .nil pass0 I2 r (by rw [List.append_nil]; exact q2)
end L2
namespace FV
open PySem PySem.Spec PyProof.Rows L2
/-! ### the calls, one behind another -/
theorem decode1 {f : Nat} {l : List Int} {raw : List (List (List Int))} (h : PyFlat.calls PyUe07.shape f l = some raw) : (l = [] ∧ raw = []) ∨ ∃ n r f' raw', l = 0 :: n :: r ∧ 0 ≤ n ∧ n.toNat ≤ r.length ∧ raw = [[0], r.take n.toNat] :: raw' ∧ PyFlat.calls PyUe07.shape f' (r.drop n.toNat) = some raw' := by
  cases l with
  | nil =>
    cases f with
    | zero => exact .inl ⟨rfl, (Option.some.inj h).symm⟩
    | succ f => exact .inl ⟨rfl, (Option.some.inj h).symm⟩
  | cons p r =>
    cases f with
    | zero => cases h
    | succ f =>
      right
      have h1 : (match PyFlat.call PyUe07.shape (p :: r) with
        | none => none
        | some (c, t) => match PyFlat.calls PyUe07.shape f t with
          | none => none
          | some cs => some (c :: cs)) = some raw := h
      by_cases hp : p = 0
      · subst hp
        cases r with
        | nil => cases h1
        | cons n r =>
          by_cases c : 0 ≤ n ∧ n.toNat ≤ r.length
          · have e : PyFlat.call PyUe07.shape (0 :: n :: r) = some ([[0], r.take n.toNat], r.drop n.toNat) := by
              show (match PyFlat.rows 1 (n :: r) with
                | none => none
                | some (xs, t) => some ((0 :: []) :: xs, t)) = _
              have e2 : PyFlat.rows 1 (n :: r) = some ([r.take n.toNat], r.drop n.toNat) := by
                show (match PyFlat.row (n :: r) with
                  | none => none
                  | some (x, s) => match PyFlat.rows 0 s with
                    | none => none
                    | some (xs, t) => some (x :: xs, t)) = _
                have e3 : PyFlat.row (n :: r) = some (r.take n.toNat, r.drop n.toNat) := if_pos c
                rw [e3]
                rfl
              rw [e2]
            rw [e] at h1
            simp only at h1
            cases e4 : PyFlat.calls PyUe07.shape f (r.drop n.toNat) with
            | none => rw [e4] at h1; cases h1
            | some cs =>
              rw [e4] at h1
              exact ⟨n, r, f, cs, rfl, c.1, c.2, (Option.some.inj h1).symm, e4⟩
          · exfalso
            have e3 : PyFlat.row (n :: r) = none := if_neg c
            have e2 : PyFlat.rows 1 (n :: r) = none := by
              show (match PyFlat.row (n :: r) with
                | none => none
                | some (x, s) => match PyFlat.rows 0 s with
                  | none => none
                  | some (xs, t) => some (x :: xs, t)) = none
              rw [e3]
            have e : PyFlat.call PyUe07.shape (0 :: n :: r) = none := by
              show (match PyFlat.rows 1 (n :: r) with
                | none => none
                | some (xs, t) => some ((0 :: []) :: xs, t)) = none
              rw [e2]
            rw [e] at h1
            cases h1
      · exfalso
        have e0 : PyUe07.shape p = none := if_neg hp
        have e : PyFlat.call PyUe07.shape (p :: r) = none := by
          show (match PyUe07.shape p with
            | none => none
            | some (n, k) => if r.length < n then none else match PyFlat.rows k (r.drop n) with
              | none => none
              | some (xs, t) => some ((p :: r.take n) :: xs, t)) = none
          rw [e0]
        rw [e] at h1
        cases h1
/-- each call is one of the document's -/
def RawOk (raw : List (List (List Int))) : Prop := ∀ c ∈ raw, (Ue07Neutral.callOf ((PyUe07.whole c).headD [])).isSome = true ∧ PyInside.call PyUe07.bound c = true
abbrev stp : Ue07Neutral.S → List (List Int) → Ue07Neutral.S × List Int := fun s c => Ue07Neutral.step s (c.headD [])
/-- a call's numbers -/
theorem call1 {x : List Int} (h1 : (Ue07Neutral.callOf x).isSome = true) : ∃ (ms : List Nat) (c : Ue07.Call), x = ms.map (fun (n : Nat) => (n : Int)) ∧ Ue07Neutral.callIn ms = some c ∧ ∀ g, Ue07Neutral.step g x = Ue07.step g c := by
  unfold Ue07Neutral.callOf at h1
  by_cases hn : x.all Ue07Neutral.nat = false
  · rw [if_pos hn] at h1; cases h1
  · rw [if_neg hn] at h1
    obtain ⟨c, hc⟩ := Option.isSome_iff_exists.mp h1
    refine ⟨x.map Int.toNat, c, ?_, hc, fun g => ?_⟩
    · rw [List.map_map]
      have hall : x.all Ue07Neutral.nat = true := by
        cases e : x.all Ue07Neutral.nat with
        | true => rfl
        | false => exact absurd e hn
      rw [List.all_eq_true] at hall
      refine (List.map_id x).symm.trans (List.map_congr_left fun z hz => ?_)
      have := hall z hz
      unfold Ue07Neutral.nat at this
      rw [Bool.and_eq_true] at this
      have h0 := of_decide_eq_true this.1
      show z = ((z.toNat : Nat) : Int)
      omega
    · unfold Ue07Neutral.step Ue07Neutral.callOf
      rw [if_neg hn, hc]
theorem callIn_nil : Ue07Neutral.callIn [] = none := rfl
theorem callIn_lt {i : Nat} {ms : List Nat} {x : Ue07.Call} (h : Ue07Neutral.callIn (i :: ms) = some x) : i < 17 := by
  unfold Ue07Neutral.callIn at h
  split at h <;> first | (cases h; done) | (rename_i e; injection e with e _; omega)
def callF (A : Ad) : List Addr := [A.f_call_look, A.f_call_window, A.f_call_text, A.f_call_edit, A.f_call_fold, A.f_call_unfold, A.f_call_goto, A.f_call_up, A.f_call_down, A.f_call_left, A.f_call_right, A.f_call_scroll, A.f_call_point, A.f_call_shows, A.f_call_rows, A.f_call_at, A.f_call_where]
def HdX (A : Ad) (f : Addr) (sp : Sp) : Prop := ∃ i, (callF A)[i]? = some f ∧ sp = spCall A i
section
variable {P : Program} {w : World} {K : PySem.W.Frag} {mg : Str → Option Value} {base : Heap} {A : Ad}
variable {H H' : Hp} {s dx lk L F av : Addr} {ls ts : List V} {g g' : Ue07.St} {Q : VK} {ans : List Int}
theorem held (T : Tx K mg A) : ∀ f sp, HdX A f sp → HeldX P w K mg base 8 f sp := by
  rintro f sp ⟨i, hi, rfl⟩
  match i, hi with
  | 0, hi => cases hi; exact ⟨_, _, (ok_call_look T).mono (by decide), T.t_call_look.F.kp, T.t_call_look.b⟩
  | 1, hi => cases hi; exact ⟨_, _, (ok_call_window T).mono (by decide), T.t_call_window.F.kp, T.t_call_window.b⟩
  | 2, hi => cases hi; exact ⟨_, _, (ok_call_text T).mono (by decide), T.t_call_text.F.kp, T.t_call_text.b⟩
  | 3, hi => cases hi; exact ⟨_, _, (ok_call_edit T).mono (by decide), T.t_call_edit.F.kp, T.t_call_edit.b⟩
  | 4, hi => cases hi; exact ⟨_, _, (ok_call_fold T).mono (by decide), T.t_call_fold.F.kp, T.t_call_fold.b⟩
  | 5, hi => cases hi; exact ⟨_, _, (ok_call_unfold T).mono (by decide), T.t_call_unfold.F.kp, T.t_call_unfold.b⟩
  | 6, hi => cases hi; exact ⟨_, _, (ok_call_goto T).mono (by decide), T.t_call_goto.F.kp, T.t_call_goto.b⟩
  | 7, hi => cases hi; exact ⟨_, _, (ok_call_up T).mono (by decide), T.t_call_up.F.kp, T.t_call_up.b⟩
  | 8, hi => cases hi; exact ⟨_, _, (ok_call_down T).mono (by decide), T.t_call_down.F.kp, T.t_call_down.b⟩
  | 9, hi => cases hi; exact ⟨_, _, (ok_call_left T).mono (by decide), T.t_call_left.F.kp, T.t_call_left.b⟩
  | 10, hi => cases hi; exact ⟨_, _, (ok_call_right T).mono (by decide), T.t_call_right.F.kp, T.t_call_right.b⟩
  | 11, hi => cases hi; exact ⟨_, _, (ok_call_scroll T).mono (by decide), T.t_call_scroll.F.kp, T.t_call_scroll.b⟩
  | 12, hi => cases hi; exact ⟨_, _, (ok_call_point T).mono (by decide), T.t_call_point.F.kp, T.t_call_point.b⟩
  | 13, hi => cases hi; exact ⟨_, _, (ok_call_shows T).mono (by decide), T.t_call_shows.F.kp, T.t_call_shows.b⟩
  | 14, hi => cases hi; exact ⟨_, _, (ok_call_rows T).mono (by decide), T.t_call_rows.F.kp, T.t_call_rows.b⟩
  | 15, hi => cases hi; exact ⟨_, _, (ok_call_at T).mono (by decide), T.t_call_at.F.kp, T.t_call_at.b⟩
  | 16, hi => cases hi; exact ⟨_, _, (ok_call_where T).mono (by decide), T.t_call_where.F.kp, T.t_call_where.b⟩
  | n + 17, hi => exact absurd hi (by simp [callF])
theorem StAt.upd_av (S : StAt A H s dx lk L F ls ts g) (a : Av av lk L F ls ts) (hs : s ≠ av) {o : HO} : StAt A (upd H av o) s dx lk L F ls ts g := by
  obtain ⟨dk, hk⟩ := S.k
  refine ⟨by rw [upd_ne hs]; exact S.o, ⟨dk, by rw [upd_ne a.k]; exact hk⟩, by rw [upd_ne a.l]; exact S.l, lns_upd (fun y hy e => a.ls (by rw [← e]; exact hy)) S.lA, by rw [upd_ne a.f]; exact S.f, S.fA.mono fun y o hy r => ?_, S.n, S.m⟩
  obtain ⟨z, rfl, hz⟩ := r
  refine ⟨z, rfl, ?_⟩
  show upd H av _ z = _
  rw [upd_ne (fun e => a.ts (by rw [← e]; exact hy))]
  exact hz
theorem init_wf : WF Ue07.init := by
  have W0 : WF0 Ue07.init := ⟨rfl, by decide, by decide, by decide, by decide, rfl, by decide, by decide, (fun f h => by cases h), by decide, by decide⟩
  exact ⟨W0, Nat.zero_le _, Nat.zero_le _⟩
def spAns (K : PySem.W.Frag) : Sp := fun vs H Q _ => ∃ (a : Addr) (ns : List Int), vs = [.ref a] ∧ SqL K H a (ns.map V.int) ∧ PyUe07.answers_asked ns = true ∧ OnlyF H ∧
  ∀ (H' : Hp) (p : Addr), H' p = some (.lst ((PyUe07.answers ns).map V.int)) → Q (.ref p) H'
theorem ten7 {n : Nat} (h : n ≤ 10000000) : n < sizeLine := Nat.lt_of_le_of_lt h (by decide)
theorem asked_out {ns : List Int} (h : PyUe07.answers_asked ns = true) : ∃ raw, PyFlat.calls PyUe07.shape ns.length ns = some raw ∧ RawOk raw ∧ (PyUe07.answers ns).length ≤ 10000000 ∧ PyUe07.answers ns = PyFlat.told (PyFlat.played stp Ue07.init (raw.map PyUe07.whole)) := by
  unfold PyUe07.answers_asked at h
  cases e : PyFlat.calls PyUe07.shape ns.length ns with
  | none => rw [e] at h; cases h
  | some raw =>
    rw [e] at h
    simp only [Bool.and_eq_true] at h
    obtain ⟨⟨⟨⟨_, _⟩, h3⟩, h4⟩, h5⟩ := h
    refine ⟨raw, rfl, fun c hc => ⟨?_, List.all_eq_true.mp h3 c hc⟩, of_decide_eq_true h5, ?_⟩
    · unfold Ue07Neutral.asked at h4
      rw [Bool.and_eq_true] at h4
      have := List.all_eq_true.mp h4.1 ((PyUe07.whole c).headD []) (by
        rw [List.map_map]
        exact List.mem_map.mpr ⟨c, hc, rfl⟩)
      exact this
    · unfold PyUe07.answers PyUe07.calls
      rw [e]
      rfl
theorem sc_answers : FnScope ["calls", "state", "given", "begin", "behind", "call", "answer"] ["calls"] (defScope s_answers) := ⟨rfl, rfl, rfl, by decide +kernel, rfl, by decide +kernel, by decide +kernel⟩
-- slots of answers: calls 0, state 1, given 2, begin 3, behind 4, call 5, answer 6
theorem ok_answers (T : Tx K mg A) : FnOk P w K mg base CX0 9 A.f_answers A.d_answers ["calls"] (spAns K) := by
  refine T.t_answers.F.ok sc_answers (fun vs H Q E h => ?_) (fun cdv Ar outer s0 H vs Q E hr h => ?_)
  · obtain ⟨a, ns, rfl, _⟩ := h
    rfl
  · obtain ⟨a, ns, rfl, h⟩ := h
    refine ⟨_, (pss_cons (ps_set (i := 1) sc_answers.nd rfl (.inl rfl) (pe_make0 T.t_State.m (ok_initState T) (hr.mono (by decide)) (by rfl) T.t_State.g T.t_State.b .nil pass0))
      (pss_cons (ps_set (i := 2) sc_answers.nd rfl (.inl rfl) (pe_lst pa_nil))
      (pss_cons (ps_set (i := 3) sc_answers.nd rfl (.inl rfl) (pe_int))
      (pss_cons (ps_while PassesOwn.never (pt_cmpR op_lt (pv 3) (pe_callB call_len_seq (by rfl) T.z_len PySem.boot_len (pa_cons (pv 0) pa_nil)) (nomark _)) (pss_cons (ps_set (i := 4) sc_answers.nd rfl (.inl rfl) (pe_op op_add (pe_op op_add (pv 3) (pe_int)) (pe_ix ix_list (pv 0) (pe_op op_add (pv 3) (pe_int)) (fun _ _ => rfl))))
      (pss_cons (ps_set (i := 5) sc_answers.nd rfl (.inl rfl) (pe_slice sl_list (pv 0) (po_some (pe_op op_add (pv 3) (pe_int))) (po_some (pv 4))))
      (pss_cons (ps_set (i := 6) sc_answers.nd rfl (.inl rfl) (pe_callX (held T) (hr.mono (by decide)) (pe_ix ix_tup (pe_glob (v := .ref A.a_CALLS) rfl T.v_CALLS rfl) (pe_ix ix_list (pv 5) (pe_int) (fun _ _ => rfl)) (fun _ _ => rfl)) (pa_cons (pv 1) (pa_cons (pe_slice sl_list (pv 5) (po_some (pe_int)) po_none) pa_nil))))
      (pss_cons (ps_expr (pe_bm PySem.F.plainAttrs_list PySem.F.slot_list_append PySem.F.type_list_append mt_append (pv 2) (pa_cons (pe_callB call_len_seq (by rfl) T.z_len PySem.boot_len (pa_cons (pv 6) pa_nil)) pa_nil)))
      (pss_cons (ps_expr (pe_bm PySem.F.plainAttrs_list PySem.F.slot_list_extend PySem.F.type_list_extend mt_extend (pv 2) (pa_cons (pv 6) pa_nil)))
      (pss_one (ps_set (i := 3) sc_answers.nd rfl (.inl rfl) (pv 4)))))))))
      (pss_one (ps_ret (pv 2))))))), ?_⟩
    dsimp only [tRet, tRetN, tChain, tOp, tUn, tC, tVar, tSeq, tIfS, tAsg, gName, tTest, tB, tAnd, tOr, tNot, tAndV, tOrV, tNotV, tFld_eq, sFld_eq, sFldAug, L2.rAdd, L2.rSub, tCons, tNil, tLst, tTup, tCall, tMake, tCB, tCKw, tBM, tSl, tPart, tNoPart, tDrop, tNext, tBreak, iList, iRng1, iEnum, gTup, gCons, gNil, tAug, ipI, rI0, rI, rU, cxOf, Cx.nox, Cx.wish, L2.start, List.map, List.length, List.replicate, List.append]
    obtain ⟨hS, hask, hO, k⟩ := h
    obtain ⟨raw, hraw, hok, h7, hans⟩ := asked_out hask
    intro s dx ns1 nd ne
    refine ⟨s, dx, rfl, upd_same, fun H1 lk L F ls ts S1 kp => ⟨rfl, ?_⟩⟩
    have s1 : Same H H1 := Same.made ns1 nd kp
    refine ⟨sz (by decide), fun gv ngv => ?_⟩
    have s2 : Same H1 (upd H1 gv (.lst [])) := same_upd ngv
    have hgv2 : (upd H1 gv (.lst [])) gv = some (.lst []) := upd_same
    have av0 : Av gv lk L F ls ts := by
      obtain ⟨dk, hk⟩ := S1.k
      refine ⟨ne_of_none hk ngv, ne_of_none S1.l ngv, ne_of_none S1.f ngv, fun h => ?_, fun h => ?_⟩
      · obtain ⟨_, _, z, e, hz⟩ := S1.lA.left _ h
        cases e
        rw [ngv] at hz
        cases hz
      · obtain ⟨_, _, z, e, hz⟩ := S1.fA.left _ h
        cases e
        rw [show H1 gv = some _ from hz] at ngv
        cases ngv
    generalize upd H1 gv (.lst []) = H2 at s2 hgv2
    have S2 := S1.same s2
    have key : ∀ {Hc : Hp} {b : Addr} {o : HO}, H b = some o → Same H Hc → ∀ {z : Addr} {u : HO}, Hc z = some u → (∀ p q, u ≠ .frz p q) → b ≠ z := fun {Hc b o} hb sc {z u} hz hu => by
      rcases hO b with e | ⟨p, q, e⟩
      · rw [e] at hb; cases hb
      · exact ne_of (sc _ _ e) hz (fun y => hu p q y.symm)
    refine ⟨fun m σ H' => ∃ (b : Nat) (v4 v5 v6 : Option V) (out : List Int) (f : Nat) (rw' : List (List (List Int))) (g : Ue07.St) (lk L F : Addr) (ls ts : List V), m = ns.length - b ∧ b ≤ ns.length ∧ σ = [some (.ref a), some (.ref s), some (.ref gv), some (.int b), v4, v5, v6] ∧ Same H H' ∧
        StAt A H' s dx lk L F ls ts g ∧ WF g ∧ Av gv lk L F ls ts ∧ H' gv = some (.lst (iV out)) ∧ PyFlat.calls PyUe07.shape f (ns.drop b) = some rw' ∧ RawOk rw' ∧ PyUe07.answers ns = out ++ PyFlat.told (PyFlat.played stp g (rw'.map PyUe07.whole)),
      ⟨_, 0, none, none, none, [], ns.length, raw, Ue07.init, lk, L, F, ls, ts, rfl, Nat.zero_le _, rfl, s1.trans s2, S2, init_wf, av0, hgv2, hraw, hok, hans⟩, ?_⟩
    clear hraw hok hans av0 S2 S1 hgv2 s2 s1 kp
    rintro m σ H' ⟨b, v4, v5, v6, out, f, rw', g, lk, L, F, ls, ts, rfl, hb, rfl, sH, S, W, av, hgv, hrw, hok, hans⟩
    have hS' := sH.seq hS
    refine ⟨_, rfl, _, rfl, a, _, rfl, .inl hS', _, _, rfl, rfl, _, rfl, ifd (fun cc => ?_) (fun cc => ?_)⟩
    · rw [List.length_map] at cc
      rcases decode1 hrw with ⟨e, _⟩ | ⟨n, r, f', raw', el, h0, hle, rfl, hrw'⟩
      · have := congrArg List.length e
        rw [List.length_drop, List.length_nil] at this
        omega
      obtain ⟨N, rfl⟩ : ∃ N : Nat, n = (N : Int) := ⟨n.toNat, by omega⟩
      rw [Int.toNat_natCast] at hle hrw' hok hans
      have hr : r = ns.drop (b + 2) := by
        have := congrArg (List.drop 2) el
        rw [List.drop_drop] at this
        exact this.symm
      have hlen : r.length = ns.length - (b + 2) := by rw [hr, List.length_drop]
      have hlen2 : (ns.drop b).length = r.length + 2 := by rw [el]; rfl
      rw [List.length_drop] at hlen2
      have hg1 : ns[b + 1]? = some (N : Int) := by
        have : (ns.drop b)[1]? = some (N : Int) := by rw [el]; rfl
        rw [List.getElem?_drop] at this
        exact this
      obtain ⟨hok1, hok2⟩ := hok _ (List.mem_cons_self ..)
      have hok1' : (Ue07Neutral.callOf (r.take N)).isSome = true := hok1
      obtain ⟨ms, c, hx, hc, hstep⟩ := call1 hok1'
      cases ms with
      | nil => rw [callIn_nil] at hc; cases hc
      | cons i ms =>
      have hi := callIn_lt hc
      have h4000 : (r.take N).length ≤ 4000 := by
        have h : (decide (1 ≤ (r.take N).length) && decide ((r.take N).length ≤ 4000) && (r.take N).all (PyInside.within 0 4294967295) && true) = true := hok2
        rw [Bool.and_true, Bool.and_eq_true, Bool.and_eq_true] at h
        exact of_decide_eq_true h.1.2
      have hml : ms.length ≤ 4000 := by
        rw [hx, List.length_map, List.length_cons] at h4000
        omega
      refine ⟨_, fun _ _ h => h, _, rfl, _, _, rfl, rfl, _, rfl, _, rfl, _, _, rfl, rfl, a, _, _, _, rfl, rfl, hS', at_of (j := b + 1) (by omega) (by rw [List.getElem?_map, hg1]; rfl), _, _, rfl, rfl, ?_⟩
      refine ⟨_, rfl, _, rfl, _, _, rfl, rfl, _, rfl, _, rfl, _, rfl, a, _, rfl, hS', fun c1 nc1 => ?_⟩
      have ec : cutV (ns.map V.int) (some ((b : Int) + 2)) (some ((b : Int) + 2 + (N : Int))) = nV (i :: ms) := by
        have h := cut_mid (ns.map V.int) (b + 2) (b + 2 + N)
        rw [List.drop_take, Nat.add_sub_cancel_left, ← List.map_drop, ← hr, ← List.map_take, hx, List.map_map] at h
        exact h
      rw [ec]
      have s3 : Same H' (upd H' c1 (.lst (nV (i :: ms)))) := same_upd nc1
      have hc1 : (upd H' c1 (.lst (nV (i :: ms)))) c1 = some (.lst (nV (i :: ms))) := upd_same
      generalize upd H' c1 (.lst (nV (i :: ms))) = H3 at s3 hc1
      have hfl : i < (callF A).length := hi
      have hfi := List.getElem?_eq_getElem hfl
      refine ⟨_, rfl, c1, _, _, _, rfl, rfl, SqL.of hc1, atI_nat (j := 0) (nV_get (w := i :: ms) (b := i) rfl), ?_⟩
      refine ⟨A.a_CALLS, _, _, _, rfl, rfl, T.q_CALLS _, atI_nat (show ((callF A).map V.ref)[i]? = some (.ref (callF A)[i]) by rw [List.getElem?_map, hfi]; rfl), ?_⟩
      refine ⟨_, spCall A i, rfl, ⟨i, hfi, rfl⟩, ?_⟩
      refine ⟨_, rfl, _, rfl, _, rfl, c1, _, rfl, SqL.of hc1, fun c2 nc2 => ?_⟩
      have ec2 : cutV (nV (i :: ms)) (some 1) none = nV ms := cut_from (nV (i :: ms)) 1
      rw [ec2]
      have s4 : Same H3 (upd H3 c2 (.lst (nV ms))) := same_upd nc2
      have hc2 : (upd H3 c2 (.lst (nV ms))) c2 = some (.lst (nV ms)) := upd_same
      generalize upd H3 c2 (.lst (nV ms)) = H4 at s4 hc2
      have s34 := s3.trans s4
      have S4 := S.same s34
      have hgv4 := s34 _ _ hgv
      have sH4 := sH.trans s34
      refine ⟨s, dx, lk, L, F, ls, ts, g, c2, gv, ms, c, rfl, S4, W, hc2, hml, hc, (by rw [hgv4]; intro z; cases z), av, fun H5 q lk' L' F' ls' ts' S5 W5 nq hq fr av5 => ?_⟩
      have ngs : gv ≠ s := ne_of hgv4 S4.o (by intro z; cases z)
      have hgv5 : H5 gv = some (.lst (iV out)) := fr _ _ hgv4 ngs (fun e => av.f e.symm)
      have nqg : q ≠ gv := fun e => by rw [e, hgv4] at nq; cases nq
      have sH5 : Same H H5 := fun y o hy => fr _ _ (sH4 _ _ hy) (key hy sH4 S4.o (by intro p q z; cases z)) (key hy sH4 S4.f (by intro p q z; cases z))
      have et : PyUe07.answers ns = (out ++ (((Ue07.step g c).2.length : Int) :: (Ue07.step g c).2)) ++ PyFlat.told (PyFlat.played stp (Ue07.step g c).1 (raw'.map PyUe07.whole)) := by
        rw [hans, List.append_assoc]
        have e1 : stp g (PyUe07.whole [[0], r.take N]) = Ue07.step g c := hstep g
        show out ++ (((stp g (PyUe07.whole [[0], r.take N])).2.length : Int) :: (stp g (PyUe07.whole [[0], r.take N])).2 ++ PyFlat.told (PyFlat.played stp (stp g (PyUe07.whole [[0], r.take N])).1 (raw'.map PyUe07.whole))) = _
        rw [e1]
      have hsz := h7
      rw [et, List.length_append, List.length_append, List.length_cons] at hsz
      refine ⟨_, rfl, .inl ⟨rfl, _, SqL.of hgv5⟩, _, rfl, q, _, rfl, .inl (SqL.of hq), gv, _, _, rfl, rfl, hgv5, ten7 (by rw [iV_len]; omega), ?_⟩
      rw [iV_len]
      have hq6 : (upd H5 gv (.lst (iV out ++ [.int ((Ue07.step g c).2.length : Int)]))) q = some (.lst (iV (Ue07.step g c).2)) := by rw [upd_ne nqg]; exact hq
      refine ⟨_, rfl, .inl ⟨rfl, _, SqL.of upd_same⟩, _, rfl, gv, q, _, _, rfl, rfl, upd_same, hq6, Nat.le_of_lt (ten7 (by rw [List.length_append, iV_len, iV_len]; show out.length + 1 + _ ≤ _; omega)), ?_⟩
      rw [upd_upd]
      refine ⟨_, rfl, ?_⟩
      refine ⟨ns.length - (b + 2 + N), by omega, b + 2 + N, some (.int ((b : Int) + 2 + (N : Int))), some (.ref c1), some (.ref q), out ++ (((Ue07.step g c).2.length : Int) :: (Ue07.step g c).2), f', raw', (Ue07.step g c).1, lk', L', F', ls', ts', rfl, by omega, rfl, fun y o hy => ?_, S5.upd_av av5 ngs.symm, W5, av5, ?_, ?_, fun z hz => hok z (List.mem_cons_of_mem _ hz), et⟩
      · rw [upd_ne (key hy sH5 hgv5 (by intro p q z; cases z))]
        exact sH5 _ _ hy
      · rw [upd_same]
        unfold iV
        rw [List.map_append, List.append_assoc]
        rfl
      · rw [hr, List.drop_drop] at hrw'
        exact hrw'
    · rw [List.length_map] at cc
      have hd : ns.drop b = [] := List.drop_eq_nil_of_le (by omega)
      rw [hd] at hrw
      rcases decode1 hrw with ⟨_, e⟩ | ⟨n, r, f', raw', el, _⟩
      · rw [e] at hans
        have e2 : PyUe07.answers ns = out := by
          rw [hans]
          exact List.append_nil _
        exact ⟨_, rfl, k H' gv (by rw [e2]; exact hgv)⟩
      · cases el
end
end FV
namespace FV
open PySem PySem.Spec PyProof.Rows L2
section
variable {K : PySem.W.Frag} {h : Heap} {mg : Str → Option Value}
theorem def_mk {x : Str} {st : Stmt} {ps : List Str} {f : Addr} {od an : Option Addr} {sl : Array (Option Value)} {oc kV dc pm cd ct : Value} (X : K.In h) (G : h.Ns mainGlobals mg)
    (a : PySem.W.nsIn K mainGlobals x = some (some (.ref f))) (l : K.lookup f = some ⟨oc, od, .func (PySem.W.fnOf x x (defArgs st) (defBody st) (defScope st) .none kV dc pm an cd ct), sl⟩) (c : PySem.W.codeIn K cd x = true) (k : PySem.W.keepIn K (.ref f) = true)
    (hb : ∀ (kV doc pm : Value) (an : Option Addr) (cdv ct : Value) (us : List Value), us.length = ps.length → bindArgs (PySem.W.fnOf x x (defArgs st) (defBody st) (defScope st) .none kV doc pm an cdv ct) ⟨us, []⟩ = pure (ps.zip us)) : ∃ fd, DefT K mg x st ps f fd :=
  ⟨_, ⟨fun_mk l c k, PySem.W.mg_of X G a, (fun_mk l c k).binds hb⟩⟩
theorem cls_mk {x q : Str} {st : Stmt} {ps : List Str} {C f : Addr} {od an : Option Addr} {sl : Array (Option Value)} {oc kV dc pm cd ct : Value} (X : K.In h) (G : h.Ns mainGlobals mg)
    (aC : PySem.W.nsIn K mainGlobals x = some (some (.ref C))) (a : PySem.W.findIn K (.ref C) "__init__" = some (some (.ref f))) (i : PySem.W.isFn K (.ref f) = true)
    (l : K.lookup f = some ⟨oc, od, .func (PySem.W.fnOf "__init__" q (defArgs st) (defBody st) (defScope st) .none kV dc pm an cd ct), sl⟩) (c : PySem.W.codeIn K cd q = true) (k : PySem.W.keepIn K (.ref f) = true)
    (pg : PySem.W.plainGet K C Str.empty = true) (hd : PySem.W.hasDictIn K C = true) (po : PySem.W.plainOver K C = true) (sa : PySem.W.findIn K (.ref C) "__setattr__" = some (some (.builtin "object.__setattr__"))) (mk : PySem.W.makesIn K C = true) (kc : PySem.W.keepIn K (.ref C) = true)
    (hb : ∀ (kV doc pm : Value) (an : Option Addr) (cdv ct : Value) (us : List Value), us.length = ps.length → bindArgs (PySem.W.fnOf "__init__" q (defArgs st) (defBody st) (defScope st) .none kV doc pm an cdv ct) ⟨us, []⟩ = pure (ps.zip us)) : ∃ f fd, ClsT K mg x q st ps C f fd :=
  ⟨f, _, ⟨fun_mk l c k, PySem.W.mg_of X G aC, (fun_mk l c k).binds hb, ⟨pg, hd, po, sa⟩, ⟨mk, a, i, kc⟩⟩⟩
end
theorem all_tx {K : PySem.W.Frag} {h : Heap} {mg : Str → Option Value} (X : K.In h) (G : h.Ns mainGlobals mg)
    {f_hides f_has_line f_is_hidden f_is_within f_is_apart f_clashes f_fold_after_edit f_folds_after_edit f_column_behind f_column_after f_blanks_end f_inset_of f_fitting_end f_last_blank_end f_row_end f_line_rows f_place_column f_place_for f_seen_lines f_seen_rows f_row_number f_place_answer f_point_answer f_row_place f_real_margin f_last_top f_scrolled f_unwished f_put_into f_bring_point_out f_refused f_call_look f_call_window f_split_lines f_is_line f_are_lines f_call_text f_move_point_by_edit f_call_edit f_call_fold f_call_unfold f_is_place f_call_goto f_go_rows_on f_call_up f_call_down f_step_left f_step_right f_call_left f_call_right f_scroll_top f_first_free_row f_last_free_row f_call_scroll f_call_point f_call_shows f_call_rows f_call_at f_call_where f_answers C_Look C_Row C_State x_BLANKS x_CALLS : Addr}
    {od_BLANKS od_CALLS : Option Addr} {sl_BLANKS sl_CALLS : Array (Option Value)}
    {t_TAB t_LINE_FEED t_MOST_LINES t_MOST_BYTES t_MOST_FOLDS t_MOST_STEPS t_WRONG t_CLASH t_FULL t_MISSING t_OUTSIDE t1_BLANKS t2_BLANKS : Tok}
    {n_BLANKS n_CALLS : Nat}
    (T_hides : ∃ fd, DefT K mg "hides" s_hides ["fold", "line"] f_hides fd)
    (T_has_line : ∃ fd, DefT K mg "has_line" s_has_line ["fold", "line"] f_has_line fd)
    (T_is_hidden : ∃ fd, DefT K mg "is_hidden" s_is_hidden ["folds", "line"] f_is_hidden fd)
    (T_is_within : ∃ fd, DefT K mg "is_within" s_is_within ["fold", "other"] f_is_within fd)
    (T_is_apart : ∃ fd, DefT K mg "is_apart" s_is_apart ["fold", "other"] f_is_apart fd)
    (T_clashes : ∃ fd, DefT K mg "clashes" s_clashes ["fold", "other"] f_clashes fd)
    (T_fold_after_edit : ∃ fd, DefT K mg "fold_after_edit" s_fold_after_edit ["fold", "begin", "behind", "grown"] f_fold_after_edit fd)
    (T_folds_after_edit : ∃ fd, DefT K mg "folds_after_edit" s_folds_after_edit ["folds", "begin", "behind", "grown"] f_folds_after_edit fd)
    (T_column_behind : ∃ fd, DefT K mg "column_behind" s_column_behind ["look", "byte", "column"] f_column_behind fd)
    (T_column_after : ∃ fd, DefT K mg "column_after" s_column_after ["look", "some", "column"] f_column_after fd)
    (T_blanks_end : ∃ fd, DefT K mg "blanks_end" s_blanks_end ["line", "begin"] f_blanks_end fd)
    (T_inset_of : ∃ fd, DefT K mg "inset_of" s_inset_of ["look", "line"] f_inset_of fd)
    (T_fitting_end : ∃ fd, DefT K mg "fitting_end" s_fitting_end ["look", "line", "begin", "column"] f_fitting_end fd)
    (T_last_blank_end : ∃ fd, DefT K mg "last_blank_end" s_last_blank_end ["line", "begin", "behind"] f_last_blank_end fd)
    (T_row_end : ∃ fd, DefT K mg "row_end" s_row_end ["look", "line", "begin", "column"] f_row_end fd)
    (T_line_rows : ∃ fd, DefT K mg "line_rows" s_line_rows ["look", "number", "line"] f_line_rows fd)
    (T_place_column : ∃ fd, DefT K mg "place_column" s_place_column ["look", "line", "row", "place"] f_place_column fd)
    (T_place_for : ∃ fd, DefT K mg "place_for" s_place_for ["look", "line", "row", "column"] f_place_for fd)
    (T_seen_lines : ∃ fd, DefT K mg "seen_lines" s_seen_lines ["state"] f_seen_lines fd)
    (T_seen_rows : ∃ fd, DefT K mg "seen_rows" s_seen_rows ["state"] f_seen_rows fd)
    (T_row_number : ∃ fd, DefT K mg "row_number" s_row_number ["rows", "line", "place"] f_row_number fd)
    (T_place_answer : ∃ fd, DefT K mg "place_answer" s_place_answer ["state", "rows", "line", "place"] f_place_answer fd)
    (T_point_answer : ∃ fd, DefT K mg "point_answer" s_point_answer ["state", "rows"] f_point_answer fd)
    (T_row_place : ∃ fd, DefT K mg "row_place" s_row_place ["state", "row", "column"] f_row_place fd)
    (T_real_margin : ∃ fd, DefT K mg "real_margin" s_real_margin ["state"] f_real_margin fd)
    (T_last_top : ∃ fd, DefT K mg "last_top" s_last_top ["state", "rows"] f_last_top fd)
    (T_scrolled : ∃ fd, DefT K mg "scrolled" s_scrolled ["state"] f_scrolled fd)
    (T_unwished : ∃ fd, DefT K mg "unwished" s_unwished ["state"] f_unwished fd)
    (T_put_into : ∃ fd, DefT K mg "put_into" s_put_into ["state", "rows", "number"] f_put_into fd)
    (T_bring_point_out : ∃ fd, DefT K mg "bring_point_out" s_bring_point_out ["state"] f_bring_point_out fd)
    (T_refused : ∃ fd, DefT K mg "refused" s_refused ["number"] f_refused fd)
    (T_call_look : ∃ fd, DefT K mg "call_look" s_call_look ["state", "told"] f_call_look fd)
    (T_call_window : ∃ fd, DefT K mg "call_window" s_call_window ["state", "told"] f_call_window fd)
    (T_split_lines : ∃ fd, DefT K mg "split_lines" s_split_lines ["told"] f_split_lines fd)
    (T_is_line : ∃ fd, DefT K mg "is_line" s_is_line ["line"] f_is_line fd)
    (T_are_lines : ∃ fd, DefT K mg "are_lines" s_are_lines ["lines"] f_are_lines fd)
    (T_call_text : ∃ fd, DefT K mg "call_text" s_call_text ["state", "told"] f_call_text fd)
    (T_move_point_by_edit : ∃ fd, DefT K mg "move_point_by_edit" s_move_point_by_edit ["state", "begin", "behind", "grown"] f_move_point_by_edit fd)
    (T_call_edit : ∃ fd, DefT K mg "call_edit" s_call_edit ["state", "told"] f_call_edit fd)
    (T_call_fold : ∃ fd, DefT K mg "call_fold" s_call_fold ["state", "told"] f_call_fold fd)
    (T_call_unfold : ∃ fd, DefT K mg "call_unfold" s_call_unfold ["state", "told"] f_call_unfold fd)
    (T_is_place : ∃ fd, DefT K mg "is_place" s_is_place ["state", "line", "place"] f_is_place fd)
    (T_call_goto : ∃ fd, DefT K mg "call_goto" s_call_goto ["state", "told"] f_call_goto fd)
    (T_go_rows_on : ∃ fd, DefT K mg "go_rows_on" s_go_rows_on ["state", "count"] f_go_rows_on fd)
    (T_call_up : ∃ fd, DefT K mg "call_up" s_call_up ["state", "told"] f_call_up fd)
    (T_call_down : ∃ fd, DefT K mg "call_down" s_call_down ["state", "told"] f_call_down fd)
    (T_step_left : ∃ fd, DefT K mg "step_left" s_step_left ["state", "seen"] f_step_left fd)
    (T_step_right : ∃ fd, DefT K mg "step_right" s_step_right ["state", "seen"] f_step_right fd)
    (T_call_left : ∃ fd, DefT K mg "call_left" s_call_left ["state", "told"] f_call_left fd)
    (T_call_right : ∃ fd, DefT K mg "call_right" s_call_right ["state", "told"] f_call_right fd)
    (T_scroll_top : ∃ fd, DefT K mg "scroll_top" s_scroll_top ["state", "rows", "back", "count"] f_scroll_top fd)
    (T_first_free_row : ∃ fd, DefT K mg "first_free_row" s_first_free_row ["state"] f_first_free_row fd)
    (T_last_free_row : ∃ fd, DefT K mg "last_free_row" s_last_free_row ["state", "rows"] f_last_free_row fd)
    (T_call_scroll : ∃ fd, DefT K mg "call_scroll" s_call_scroll ["state", "told"] f_call_scroll fd)
    (T_call_point : ∃ fd, DefT K mg "call_point" s_call_point ["state", "told"] f_call_point fd)
    (T_call_shows : ∃ fd, DefT K mg "call_shows" s_call_shows ["state", "told"] f_call_shows fd)
    (T_call_rows : ∃ fd, DefT K mg "call_rows" s_call_rows ["state", "told"] f_call_rows fd)
    (T_call_at : ∃ fd, DefT K mg "call_at" s_call_at ["state", "told"] f_call_at fd)
    (T_call_where : ∃ fd, DefT K mg "call_where" s_call_where ["state", "told"] f_call_where fd)
    (T_answers : ∃ fd, DefT K mg "answers" s_answers ["calls"] f_answers fd)
    (T_Look : ∃ f fd, ClsT K mg "Look" "Look.__init__" s_initLook ["self", "wide", "tab", "more", "hang", "words"] C_Look f fd)
    (n_Look_wide : PySem.W.findIn K (.ref C_Look) "wide" = some none)
    (n_Look_tab : PySem.W.findIn K (.ref C_Look) "tab" = some none)
    (n_Look_more : PySem.W.findIn K (.ref C_Look) "more" = some none)
    (n_Look_hang : PySem.W.findIn K (.ref C_Look) "hang" = some none)
    (n_Look_words : PySem.W.findIn K (.ref C_Look) "words" = some none)
    (T_Row : ∃ f fd, ClsT K mg "Row" "Row.__init__" s_initRow ["self", "line", "begin", "behind", "column"] C_Row f fd)
    (n_Row_line : PySem.W.findIn K (.ref C_Row) "line" = some none)
    (n_Row_begin : PySem.W.findIn K (.ref C_Row) "begin" = some none)
    (n_Row_behind : PySem.W.findIn K (.ref C_Row) "behind" = some none)
    (n_Row_column : PySem.W.findIn K (.ref C_Row) "column" = some none)
    (T_State : ∃ f fd, ClsT K mg "State" "State.__init__" s_initState ["self"] C_State f fd)
    (n_State_look : PySem.W.findIn K (.ref C_State) "look" = some none)
    (n_State_lines : PySem.W.findIn K (.ref C_State) "lines" = some none)
    (n_State_folds : PySem.W.findIn K (.ref C_State) "folds" = some none)
    (n_State_line : PySem.W.findIn K (.ref C_State) "line" = some none)
    (n_State_place : PySem.W.findIn K (.ref C_State) "place" = some none)
    (n_State_wished : PySem.W.findIn K (.ref C_State) "wished" = some none)
    (n_State_high : PySem.W.findIn K (.ref C_State) "high" = some none)
    (n_State_margin : PySem.W.findIn K (.ref C_State) "margin" = some none)
    (n_State_top : PySem.W.findIn K (.ref C_State) "top" = some none)
    (v_TAB : PySem.W.nsIn K mainGlobals "TAB" = some (some (.int 9 t_TAB)))
    (v_LINE_FEED : PySem.W.nsIn K mainGlobals "LINE_FEED" = some (some (.int 10 t_LINE_FEED)))
    (v_MOST_LINES : PySem.W.nsIn K mainGlobals "MOST_LINES" = some (some (.int 30 t_MOST_LINES)))
    (v_MOST_BYTES : PySem.W.nsIn K mainGlobals "MOST_BYTES" = some (some (.int 120 t_MOST_BYTES)))
    (v_MOST_FOLDS : PySem.W.nsIn K mainGlobals "MOST_FOLDS" = some (some (.int 12 t_MOST_FOLDS)))
    (v_MOST_STEPS : PySem.W.nsIn K mainGlobals "MOST_STEPS" = some (some (.int 100 t_MOST_STEPS)))
    (v_WRONG : PySem.W.nsIn K mainGlobals "WRONG" = some (some (.int 1 t_WRONG)))
    (v_CLASH : PySem.W.nsIn K mainGlobals "CLASH" = some (some (.int 4 t_CLASH)))
    (v_FULL : PySem.W.nsIn K mainGlobals "FULL" = some (some (.int 5 t_FULL)))
    (v_MISSING : PySem.W.nsIn K mainGlobals "MISSING" = some (some (.int 6 t_MISSING)))
    (v_OUTSIDE : PySem.W.nsIn K mainGlobals "OUTSIDE" = some (some (.int 7 t_OUTSIDE)))
    (v_BLANKS : PySem.W.nsIn K mainGlobals "BLANKS" = some (some (.ref x_BLANKS)))
    (w_BLANKS : K.lookup x_BLANKS = some ⟨.type "tuple", od_BLANKS, .seq #[.int 9 t1_BLANKS, .int 32 t2_BLANKS] n_BLANKS, sl_BLANKS⟩)
    (v_CALLS : PySem.W.nsIn K mainGlobals "CALLS" = some (some (.ref x_CALLS)))
    (w_CALLS : K.lookup x_CALLS = some ⟨.type "tuple", od_CALLS, .seq #[.ref f_call_look, .ref f_call_window, .ref f_call_text, .ref f_call_edit, .ref f_call_fold, .ref f_call_unfold, .ref f_call_goto, .ref f_call_up, .ref f_call_down, .ref f_call_left, .ref f_call_right, .ref f_call_scroll, .ref f_call_point, .ref f_call_shows, .ref f_call_rows, .ref f_call_at, .ref f_call_where] n_CALLS, sl_CALLS⟩)
    (z_len : PySem.W.nsIn K mainGlobals "len" = some none)
    (z_range : PySem.W.nsIn K mainGlobals "range" = some none)
    (z_min : PySem.W.nsIn K mainGlobals "min" = some none)
    (z_max : PySem.W.nsIn K mainGlobals "max" = some none)
    (z_sorted : PySem.W.nsIn K mainGlobals "sorted" = some none)
    (z_enumerate : PySem.W.nsIn K mainGlobals "enumerate" = some none)
    (z_all : PySem.W.nsIn K mainGlobals "all" = some none)
    : ∃ A : Ad, Tx K mg A := by
  obtain ⟨d_hides, T_hides⟩ := T_hides
  obtain ⟨d_has_line, T_has_line⟩ := T_has_line
  obtain ⟨d_is_hidden, T_is_hidden⟩ := T_is_hidden
  obtain ⟨d_is_within, T_is_within⟩ := T_is_within
  obtain ⟨d_is_apart, T_is_apart⟩ := T_is_apart
  obtain ⟨d_clashes, T_clashes⟩ := T_clashes
  obtain ⟨d_fold_after_edit, T_fold_after_edit⟩ := T_fold_after_edit
  obtain ⟨d_folds_after_edit, T_folds_after_edit⟩ := T_folds_after_edit
  obtain ⟨d_column_behind, T_column_behind⟩ := T_column_behind
  obtain ⟨d_column_after, T_column_after⟩ := T_column_after
  obtain ⟨d_blanks_end, T_blanks_end⟩ := T_blanks_end
  obtain ⟨d_inset_of, T_inset_of⟩ := T_inset_of
  obtain ⟨d_fitting_end, T_fitting_end⟩ := T_fitting_end
  obtain ⟨d_last_blank_end, T_last_blank_end⟩ := T_last_blank_end
  obtain ⟨d_row_end, T_row_end⟩ := T_row_end
  obtain ⟨d_line_rows, T_line_rows⟩ := T_line_rows
  obtain ⟨d_place_column, T_place_column⟩ := T_place_column
  obtain ⟨d_place_for, T_place_for⟩ := T_place_for
  obtain ⟨d_seen_lines, T_seen_lines⟩ := T_seen_lines
  obtain ⟨d_seen_rows, T_seen_rows⟩ := T_seen_rows
  obtain ⟨d_row_number, T_row_number⟩ := T_row_number
  obtain ⟨d_place_answer, T_place_answer⟩ := T_place_answer
  obtain ⟨d_point_answer, T_point_answer⟩ := T_point_answer
  obtain ⟨d_row_place, T_row_place⟩ := T_row_place
  obtain ⟨d_real_margin, T_real_margin⟩ := T_real_margin
  obtain ⟨d_last_top, T_last_top⟩ := T_last_top
  obtain ⟨d_scrolled, T_scrolled⟩ := T_scrolled
  obtain ⟨d_unwished, T_unwished⟩ := T_unwished
  obtain ⟨d_put_into, T_put_into⟩ := T_put_into
  obtain ⟨d_bring_point_out, T_bring_point_out⟩ := T_bring_point_out
  obtain ⟨d_refused, T_refused⟩ := T_refused
  obtain ⟨d_call_look, T_call_look⟩ := T_call_look
  obtain ⟨d_call_window, T_call_window⟩ := T_call_window
  obtain ⟨d_split_lines, T_split_lines⟩ := T_split_lines
  obtain ⟨d_is_line, T_is_line⟩ := T_is_line
  obtain ⟨d_are_lines, T_are_lines⟩ := T_are_lines
  obtain ⟨d_call_text, T_call_text⟩ := T_call_text
  obtain ⟨d_move_point_by_edit, T_move_point_by_edit⟩ := T_move_point_by_edit
  obtain ⟨d_call_edit, T_call_edit⟩ := T_call_edit
  obtain ⟨d_call_fold, T_call_fold⟩ := T_call_fold
  obtain ⟨d_call_unfold, T_call_unfold⟩ := T_call_unfold
  obtain ⟨d_is_place, T_is_place⟩ := T_is_place
  obtain ⟨d_call_goto, T_call_goto⟩ := T_call_goto
  obtain ⟨d_go_rows_on, T_go_rows_on⟩ := T_go_rows_on
  obtain ⟨d_call_up, T_call_up⟩ := T_call_up
  obtain ⟨d_call_down, T_call_down⟩ := T_call_down
  obtain ⟨d_step_left, T_step_left⟩ := T_step_left
  obtain ⟨d_step_right, T_step_right⟩ := T_step_right
  obtain ⟨d_call_left, T_call_left⟩ := T_call_left
  obtain ⟨d_call_right, T_call_right⟩ := T_call_right
  obtain ⟨d_scroll_top, T_scroll_top⟩ := T_scroll_top
  obtain ⟨d_first_free_row, T_first_free_row⟩ := T_first_free_row
  obtain ⟨d_last_free_row, T_last_free_row⟩ := T_last_free_row
  obtain ⟨d_call_scroll, T_call_scroll⟩ := T_call_scroll
  obtain ⟨d_call_point, T_call_point⟩ := T_call_point
  obtain ⟨d_call_shows, T_call_shows⟩ := T_call_shows
  obtain ⟨d_call_rows, T_call_rows⟩ := T_call_rows
  obtain ⟨d_call_at, T_call_at⟩ := T_call_at
  obtain ⟨d_call_where, T_call_where⟩ := T_call_where
  obtain ⟨d_answers, T_answers⟩ := T_answers
  obtain ⟨f_initLook, d_initLook, T_Look⟩ := T_Look
  obtain ⟨f_initRow, d_initRow, T_Row⟩ := T_Row
  obtain ⟨f_initState, d_initState, T_State⟩ := T_State
  refine ⟨⟨f_hides, d_hides, f_has_line, d_has_line, f_is_hidden, d_is_hidden, f_is_within, d_is_within, f_is_apart, d_is_apart, f_clashes, d_clashes, f_fold_after_edit, d_fold_after_edit, f_folds_after_edit, d_folds_after_edit, f_column_behind, d_column_behind, f_column_after, d_column_after, f_blanks_end, d_blanks_end, f_inset_of, d_inset_of, f_fitting_end, d_fitting_end, f_last_blank_end, d_last_blank_end, f_row_end, d_row_end, f_line_rows, d_line_rows, f_place_column, d_place_column, f_place_for, d_place_for, f_seen_lines, d_seen_lines, f_seen_rows, d_seen_rows, f_row_number, d_row_number, f_place_answer, d_place_answer, f_point_answer, d_point_answer, f_row_place, d_row_place, f_real_margin, d_real_margin, f_last_top, d_last_top, f_scrolled, d_scrolled, f_unwished, d_unwished, f_put_into, d_put_into, f_bring_point_out, d_bring_point_out, f_refused, d_refused, f_call_look, d_call_look, f_call_window, d_call_window, f_split_lines, d_split_lines, f_is_line, d_is_line, f_are_lines, d_are_lines, f_call_text, d_call_text, f_move_point_by_edit, d_move_point_by_edit, f_call_edit, d_call_edit, f_call_fold, d_call_fold, f_call_unfold, d_call_unfold, f_is_place, d_is_place, f_call_goto, d_call_goto, f_go_rows_on, d_go_rows_on, f_call_up, d_call_up, f_call_down, d_call_down, f_step_left, d_step_left, f_step_right, d_step_right, f_call_left, d_call_left, f_call_right, d_call_right, f_scroll_top, d_scroll_top, f_first_free_row, d_first_free_row, f_last_free_row, d_last_free_row, f_call_scroll, d_call_scroll, f_call_point, d_call_point, f_call_shows, d_call_shows, f_call_rows, d_call_rows, f_call_at, d_call_at, f_call_where, d_call_where, f_answers, d_answers, C_Look, f_initLook, d_initLook, C_Row, f_initRow, d_initRow, C_State, f_initState, d_initState, x_BLANKS, x_CALLS⟩, ?_⟩
  exact ⟨T_hides,
    T_has_line,
    T_is_hidden,
    T_is_within,
    T_is_apart,
    T_clashes,
    T_fold_after_edit,
    T_folds_after_edit,
    T_column_behind,
    T_column_after,
    T_blanks_end,
    T_inset_of,
    T_fitting_end,
    T_last_blank_end,
    T_row_end,
    T_line_rows,
    T_place_column,
    T_place_for,
    T_seen_lines,
    T_seen_rows,
    T_row_number,
    T_place_answer,
    T_point_answer,
    T_row_place,
    T_real_margin,
    T_last_top,
    T_scrolled,
    T_unwished,
    T_put_into,
    T_bring_point_out,
    T_refused,
    T_call_look,
    T_call_window,
    T_split_lines,
    T_is_line,
    T_are_lines,
    T_call_text,
    T_move_point_by_edit,
    T_call_edit,
    T_call_fold,
    T_call_unfold,
    T_is_place,
    T_call_goto,
    T_go_rows_on,
    T_call_up,
    T_call_down,
    T_step_left,
    T_step_right,
    T_call_left,
    T_call_right,
    T_scroll_top,
    T_first_free_row,
    T_last_free_row,
    T_call_scroll,
    T_call_point,
    T_call_shows,
    T_call_rows,
    T_call_at,
    T_call_where,
    T_answers,
    T_Look,
    n_Look_wide,
    n_Look_tab,
    n_Look_more,
    n_Look_hang,
    n_Look_words,
    T_Row,
    n_Row_line,
    n_Row_begin,
    n_Row_behind,
    n_Row_column,
    T_State,
    n_State_look,
    n_State_lines,
    n_State_folds,
    n_State_line,
    n_State_place,
    n_State_wished,
    n_State_high,
    n_State_margin,
    n_State_top,
    ⟨_, PySem.W.mg_of X G v_TAB⟩,
    ⟨_, PySem.W.mg_of X G v_LINE_FEED⟩,
    ⟨_, PySem.W.mg_of X G v_MOST_LINES⟩,
    ⟨_, PySem.W.mg_of X G v_MOST_BYTES⟩,
    ⟨_, PySem.W.mg_of X G v_MOST_FOLDS⟩,
    ⟨_, PySem.W.mg_of X G v_MOST_STEPS⟩,
    ⟨_, PySem.W.mg_of X G v_WRONG⟩,
    ⟨_, PySem.W.mg_of X G v_CLASH⟩,
    ⟨_, PySem.W.mg_of X G v_FULL⟩,
    ⟨_, PySem.W.mg_of X G v_MISSING⟩,
    ⟨_, PySem.W.mg_of X G v_OUTSIDE⟩,
    PySem.W.mg_of X G v_BLANKS,
    PySem.W.mg_of X G v_CALLS,
    fun H => .inr ⟨_, _, _, w_BLANKS, rfl, rfl, by show 2 ≤ sizeLine; decide, .cons ⟨_, rfl⟩ (.cons ⟨_, rfl⟩ .nil)⟩,
    fun H => .inr ⟨_, _, _, w_CALLS, rfl, rfl, by show 17 ≤ sizeLine; decide, .cons rfl (.cons rfl (.cons rfl (.cons rfl (.cons rfl (.cons rfl (.cons rfl (.cons rfl (.cons rfl (.cons rfl (.cons rfl (.cons rfl (.cons rfl (.cons rfl (.cons rfl (.cons rfl (.cons rfl (.nil)))))))))))))))))⟩,
    PySem.W.mg_none_of X G z_len,
    PySem.W.mg_none_of X G z_range,
    PySem.W.mg_none_of X G z_min,
    PySem.W.mg_none_of X G z_max,
    PySem.W.mg_none_of X G z_sorted,
    PySem.W.mg_none_of X G z_enumerate,
    PySem.W.mg_none_of X G z_all⟩
end FV
open PySem PySem.W PyProof.Rows
set_option maxRecDepth 100000 in
set_option maxHeartbeats 8000000 in
theorem PySem.Challenge.cw_foldview_s01_answers_holds : PySem.Challenge.rw_foldview_s01_answers.Holds := by
  w_on; k_headS; (case hw => exact ⟨[.list [.int 0, .int 1, .int 12]], by decide +kernel, by decide +kernel⟩)
  k_fillS
  refine L2.walk_specK (r := PySem.Challenge.rw_foldview_s01_answers) (k := 9) (CX := L2.CX0) (ps := ["calls"]) (sp := FV.spAns) (by decide +kernel) rfl rfl ⟨rfl, by decide, by decide⟩ (fun w h Y => PySem.W.kIn_of Y) ?F ?S (fun _ _ _ _ z => z)
  case F =>
    intro w mg fa h Y KX G hmg
    obtain ⟨A, T⟩ : ∃ A : FV.Ad, FV.Tx _ mg A := by
      refine' FV.all_tx KX G ?T_hides ?T_has_line ?T_is_hidden ?T_is_within ?T_is_apart ?T_clashes ?T_fold_after_edit ?T_folds_after_edit ?T_column_behind ?T_column_after ?T_blanks_end ?T_inset_of ?T_fitting_end ?T_last_blank_end ?T_row_end ?T_line_rows ?T_place_column ?T_place_for ?T_seen_lines ?T_seen_rows ?T_row_number ?T_place_answer ?T_point_answer ?T_row_place ?T_real_margin ?T_last_top ?T_scrolled ?T_unwished ?T_put_into ?T_bring_point_out ?T_refused ?T_call_look ?T_call_window ?T_split_lines ?T_is_line ?T_are_lines ?T_call_text ?T_move_point_by_edit ?T_call_edit ?T_call_fold ?T_call_unfold ?T_is_place ?T_call_goto ?T_go_rows_on ?T_call_up ?T_call_down ?T_step_left ?T_step_right ?T_call_left ?T_call_right ?T_scroll_top ?T_first_free_row ?T_last_free_row ?T_call_scroll ?T_call_point ?T_call_shows ?T_call_rows ?T_call_at ?T_call_where ?T_answers ?T_Look ?n_Look_wide ?n_Look_tab ?n_Look_more ?n_Look_hang ?n_Look_words ?T_Row ?n_Row_line ?n_Row_begin ?n_Row_behind ?n_Row_column ?T_State ?n_State_look ?n_State_lines ?n_State_folds ?n_State_line ?n_State_place ?n_State_wished ?n_State_high ?n_State_margin ?n_State_top ?v_TAB ?v_LINE_FEED ?v_MOST_LINES ?v_MOST_BYTES ?v_MOST_FOLDS ?v_MOST_STEPS ?v_WRONG ?v_CLASH ?v_FULL ?v_MISSING ?v_OUTSIDE ?v_BLANKS ?w_BLANKS ?v_CALLS ?w_CALLS ?z_len ?z_range ?z_min ?z_max ?z_sorted ?z_enumerate ?z_all
      case T_hides => (refine' FV.def_mk (x := "hides") (st := FV.s_hides) (ps := ["fold", "line"]) KX G ?a ?l ?c ?k (fun _ _ _ _ _ _ us hl => match us, hl with | [_, _], _ => rfl); (case a => k_is); (case l => k_is); (case c => k_is); (case k => k_is))
      case T_has_line => (refine' FV.def_mk (x := "has_line") (st := FV.s_has_line) (ps := ["fold", "line"]) KX G ?a ?l ?c ?k (fun _ _ _ _ _ _ us hl => match us, hl with | [_, _], _ => rfl); (case a => k_is); (case l => k_is); (case c => k_is); (case k => k_is))
      case T_is_hidden => (refine' FV.def_mk (x := "is_hidden") (st := FV.s_is_hidden) (ps := ["folds", "line"]) KX G ?a ?l ?c ?k (fun _ _ _ _ _ _ us hl => match us, hl with | [_, _], _ => rfl); (case a => k_is); (case l => k_is); (case c => k_is); (case k => k_is))
      case T_is_within => (refine' FV.def_mk (x := "is_within") (st := FV.s_is_within) (ps := ["fold", "other"]) KX G ?a ?l ?c ?k (fun _ _ _ _ _ _ us hl => match us, hl with | [_, _], _ => rfl); (case a => k_is); (case l => k_is); (case c => k_is); (case k => k_is))
      case T_is_apart => (refine' FV.def_mk (x := "is_apart") (st := FV.s_is_apart) (ps := ["fold", "other"]) KX G ?a ?l ?c ?k (fun _ _ _ _ _ _ us hl => match us, hl with | [_, _], _ => rfl); (case a => k_is); (case l => k_is); (case c => k_is); (case k => k_is))
      case T_clashes => (refine' FV.def_mk (x := "clashes") (st := FV.s_clashes) (ps := ["fold", "other"]) KX G ?a ?l ?c ?k (fun _ _ _ _ _ _ us hl => match us, hl with | [_, _], _ => rfl); (case a => k_is); (case l => k_is); (case c => k_is); (case k => k_is))
      case T_fold_after_edit => (refine' FV.def_mk (x := "fold_after_edit") (st := FV.s_fold_after_edit) (ps := ["fold", "begin", "behind", "grown"]) KX G ?a ?l ?c ?k (fun _ _ _ _ _ _ us hl => match us, hl with | [_, _, _, _], _ => rfl); (case a => k_is); (case l => k_is); (case c => k_is); (case k => k_is))
      case T_folds_after_edit => (refine' FV.def_mk (x := "folds_after_edit") (st := FV.s_folds_after_edit) (ps := ["folds", "begin", "behind", "grown"]) KX G ?a ?l ?c ?k (fun _ _ _ _ _ _ us hl => match us, hl with | [_, _, _, _], _ => rfl); (case a => k_is); (case l => k_is); (case c => k_is); (case k => k_is))
      case T_column_behind => (refine' FV.def_mk (x := "column_behind") (st := FV.s_column_behind) (ps := ["look", "byte", "column"]) KX G ?a ?l ?c ?k (fun _ _ _ _ _ _ us hl => match us, hl with | [_, _, _], _ => rfl); (case a => k_is); (case l => k_is); (case c => k_is); (case k => k_is))
      case T_column_after => (refine' FV.def_mk (x := "column_after") (st := FV.s_column_after) (ps := ["look", "some", "column"]) KX G ?a ?l ?c ?k (fun _ _ _ _ _ _ us hl => match us, hl with | [_, _, _], _ => rfl); (case a => k_is); (case l => k_is); (case c => k_is); (case k => k_is))
      case T_blanks_end => (refine' FV.def_mk (x := "blanks_end") (st := FV.s_blanks_end) (ps := ["line", "begin"]) KX G ?a ?l ?c ?k (fun _ _ _ _ _ _ us hl => match us, hl with | [_, _], _ => rfl); (case a => k_is); (case l => k_is); (case c => k_is); (case k => k_is))
      case T_inset_of => (refine' FV.def_mk (x := "inset_of") (st := FV.s_inset_of) (ps := ["look", "line"]) KX G ?a ?l ?c ?k (fun _ _ _ _ _ _ us hl => match us, hl with | [_, _], _ => rfl); (case a => k_is); (case l => k_is); (case c => k_is); (case k => k_is))
      case T_fitting_end => (refine' FV.def_mk (x := "fitting_end") (st := FV.s_fitting_end) (ps := ["look", "line", "begin", "column"]) KX G ?a ?l ?c ?k (fun _ _ _ _ _ _ us hl => match us, hl with | [_, _, _, _], _ => rfl); (case a => k_is); (case l => k_is); (case c => k_is); (case k => k_is))
      case T_last_blank_end => (refine' FV.def_mk (x := "last_blank_end") (st := FV.s_last_blank_end) (ps := ["line", "begin", "behind"]) KX G ?a ?l ?c ?k (fun _ _ _ _ _ _ us hl => match us, hl with | [_, _, _], _ => rfl); (case a => k_is); (case l => k_is); (case c => k_is); (case k => k_is))
      case T_row_end => (refine' FV.def_mk (x := "row_end") (st := FV.s_row_end) (ps := ["look", "line", "begin", "column"]) KX G ?a ?l ?c ?k (fun _ _ _ _ _ _ us hl => match us, hl with | [_, _, _, _], _ => rfl); (case a => k_is); (case l => k_is); (case c => k_is); (case k => k_is))
      case T_line_rows => (refine' FV.def_mk (x := "line_rows") (st := FV.s_line_rows) (ps := ["look", "number", "line"]) KX G ?a ?l ?c ?k (fun _ _ _ _ _ _ us hl => match us, hl with | [_, _, _], _ => rfl); (case a => k_is); (case l => k_is); (case c => k_is); (case k => k_is))
      case T_place_column => (refine' FV.def_mk (x := "place_column") (st := FV.s_place_column) (ps := ["look", "line", "row", "place"]) KX G ?a ?l ?c ?k (fun _ _ _ _ _ _ us hl => match us, hl with | [_, _, _, _], _ => rfl); (case a => k_is); (case l => k_is); (case c => k_is); (case k => k_is))
      case T_place_for => (refine' FV.def_mk (x := "place_for") (st := FV.s_place_for) (ps := ["look", "line", "row", "column"]) KX G ?a ?l ?c ?k (fun _ _ _ _ _ _ us hl => match us, hl with | [_, _, _, _], _ => rfl); (case a => k_is); (case l => k_is); (case c => k_is); (case k => k_is))
      case T_seen_lines => (refine' FV.def_mk (x := "seen_lines") (st := FV.s_seen_lines) (ps := ["state"]) KX G ?a ?l ?c ?k (fun _ _ _ _ _ _ us hl => match us, hl with | [_], _ => rfl); (case a => k_is); (case l => k_is); (case c => k_is); (case k => k_is))
      case T_seen_rows => (refine' FV.def_mk (x := "seen_rows") (st := FV.s_seen_rows) (ps := ["state"]) KX G ?a ?l ?c ?k (fun _ _ _ _ _ _ us hl => match us, hl with | [_], _ => rfl); (case a => k_is); (case l => k_is); (case c => k_is); (case k => k_is))
      case T_row_number => (refine' FV.def_mk (x := "row_number") (st := FV.s_row_number) (ps := ["rows", "line", "place"]) KX G ?a ?l ?c ?k (fun _ _ _ _ _ _ us hl => match us, hl with | [_, _, _], _ => rfl); (case a => k_is); (case l => k_is); (case c => k_is); (case k => k_is))
      case T_place_answer => (refine' FV.def_mk (x := "place_answer") (st := FV.s_place_answer) (ps := ["state", "rows", "line", "place"]) KX G ?a ?l ?c ?k (fun _ _ _ _ _ _ us hl => match us, hl with | [_, _, _, _], _ => rfl); (case a => k_is); (case l => k_is); (case c => k_is); (case k => k_is))
      case T_point_answer => (refine' FV.def_mk (x := "point_answer") (st := FV.s_point_answer) (ps := ["state", "rows"]) KX G ?a ?l ?c ?k (fun _ _ _ _ _ _ us hl => match us, hl with | [_, _], _ => rfl); (case a => k_is); (case l => k_is); (case c => k_is); (case k => k_is))
      case T_row_place => (refine' FV.def_mk (x := "row_place") (st := FV.s_row_place) (ps := ["state", "row", "column"]) KX G ?a ?l ?c ?k (fun _ _ _ _ _ _ us hl => match us, hl with | [_, _, _], _ => rfl); (case a => k_is); (case l => k_is); (case c => k_is); (case k => k_is))
      case T_real_margin => (refine' FV.def_mk (x := "real_margin") (st := FV.s_real_margin) (ps := ["state"]) KX G ?a ?l ?c ?k (fun _ _ _ _ _ _ us hl => match us, hl with | [_], _ => rfl); (case a => k_is); (case l => k_is); (case c => k_is); (case k => k_is))
      case T_last_top => (refine' FV.def_mk (x := "last_top") (st := FV.s_last_top) (ps := ["state", "rows"]) KX G ?a ?l ?c ?k (fun _ _ _ _ _ _ us hl => match us, hl with | [_, _], _ => rfl); (case a => k_is); (case l => k_is); (case c => k_is); (case k => k_is))
      case T_scrolled => (refine' FV.def_mk (x := "scrolled") (st := FV.s_scrolled) (ps := ["state"]) KX G ?a ?l ?c ?k (fun _ _ _ _ _ _ us hl => match us, hl with | [_], _ => rfl); (case a => k_is); (case l => k_is); (case c => k_is); (case k => k_is))
      case T_unwished => (refine' FV.def_mk (x := "unwished") (st := FV.s_unwished) (ps := ["state"]) KX G ?a ?l ?c ?k (fun _ _ _ _ _ _ us hl => match us, hl with | [_], _ => rfl); (case a => k_is); (case l => k_is); (case c => k_is); (case k => k_is))
      case T_put_into => (refine' FV.def_mk (x := "put_into") (st := FV.s_put_into) (ps := ["state", "rows", "number"]) KX G ?a ?l ?c ?k (fun _ _ _ _ _ _ us hl => match us, hl with | [_, _, _], _ => rfl); (case a => k_is); (case l => k_is); (case c => k_is); (case k => k_is))
      case T_bring_point_out => (refine' FV.def_mk (x := "bring_point_out") (st := FV.s_bring_point_out) (ps := ["state"]) KX G ?a ?l ?c ?k (fun _ _ _ _ _ _ us hl => match us, hl with | [_], _ => rfl); (case a => k_is); (case l => k_is); (case c => k_is); (case k => k_is))
      case T_refused => (refine' FV.def_mk (x := "refused") (st := FV.s_refused) (ps := ["number"]) KX G ?a ?l ?c ?k (fun _ _ _ _ _ _ us hl => match us, hl with | [_], _ => rfl); (case a => k_is); (case l => k_is); (case c => k_is); (case k => k_is))
      case T_call_look => (refine' FV.def_mk (x := "call_look") (st := FV.s_call_look) (ps := ["state", "told"]) KX G ?a ?l ?c ?k (fun _ _ _ _ _ _ us hl => match us, hl with | [_, _], _ => rfl); (case a => k_is); (case l => k_is); (case c => k_is); (case k => k_is))
      case T_call_window => (refine' FV.def_mk (x := "call_window") (st := FV.s_call_window) (ps := ["state", "told"]) KX G ?a ?l ?c ?k (fun _ _ _ _ _ _ us hl => match us, hl with | [_, _], _ => rfl); (case a => k_is); (case l => k_is); (case c => k_is); (case k => k_is))
      case T_split_lines => (refine' FV.def_mk (x := "split_lines") (st := FV.s_split_lines) (ps := ["told"]) KX G ?a ?l ?c ?k (fun _ _ _ _ _ _ us hl => match us, hl with | [_], _ => rfl); (case a => k_is); (case l => k_is); (case c => k_is); (case k => k_is))
      case T_is_line => (refine' FV.def_mk (x := "is_line") (st := FV.s_is_line) (ps := ["line"]) KX G ?a ?l ?c ?k (fun _ _ _ _ _ _ us hl => match us, hl with | [_], _ => rfl); (case a => k_is); (case l => k_is); (case c => k_is); (case k => k_is))
      case T_are_lines => (refine' FV.def_mk (x := "are_lines") (st := FV.s_are_lines) (ps := ["lines"]) KX G ?a ?l ?c ?k (fun _ _ _ _ _ _ us hl => match us, hl with | [_], _ => rfl); (case a => k_is); (case l => k_is); (case c => k_is); (case k => k_is))
      case T_call_text => (refine' FV.def_mk (x := "call_text") (st := FV.s_call_text) (ps := ["state", "told"]) KX G ?a ?l ?c ?k (fun _ _ _ _ _ _ us hl => match us, hl with | [_, _], _ => rfl); (case a => k_is); (case l => k_is); (case c => k_is); (case k => k_is))
      case T_move_point_by_edit => (refine' FV.def_mk (x := "move_point_by_edit") (st := FV.s_move_point_by_edit) (ps := ["state", "begin", "behind", "grown"]) KX G ?a ?l ?c ?k (fun _ _ _ _ _ _ us hl => match us, hl with | [_, _, _, _], _ => rfl); (case a => k_is); (case l => k_is); (case c => k_is); (case k => k_is))
      case T_call_edit => (refine' FV.def_mk (x := "call_edit") (st := FV.s_call_edit) (ps := ["state", "told"]) KX G ?a ?l ?c ?k (fun _ _ _ _ _ _ us hl => match us, hl with | [_, _], _ => rfl); (case a => k_is); (case l => k_is); (case c => k_is); (case k => k_is))
      case T_call_fold => (refine' FV.def_mk (x := "call_fold") (st := FV.s_call_fold) (ps := ["state", "told"]) KX G ?a ?l ?c ?k (fun _ _ _ _ _ _ us hl => match us, hl with | [_, _], _ => rfl); (case a => k_is); (case l => k_is); (case c => k_is); (case k => k_is))
      case T_call_unfold => (refine' FV.def_mk (x := "call_unfold") (st := FV.s_call_unfold) (ps := ["state", "told"]) KX G ?a ?l ?c ?k (fun _ _ _ _ _ _ us hl => match us, hl with | [_, _], _ => rfl); (case a => k_is); (case l => k_is); (case c => k_is); (case k => k_is))
      case T_is_place => (refine' FV.def_mk (x := "is_place") (st := FV.s_is_place) (ps := ["state", "line", "place"]) KX G ?a ?l ?c ?k (fun _ _ _ _ _ _ us hl => match us, hl with | [_, _, _], _ => rfl); (case a => k_is); (case l => k_is); (case c => k_is); (case k => k_is))
      case T_call_goto => (refine' FV.def_mk (x := "call_goto") (st := FV.s_call_goto) (ps := ["state", "told"]) KX G ?a ?l ?c ?k (fun _ _ _ _ _ _ us hl => match us, hl with | [_, _], _ => rfl); (case a => k_is); (case l => k_is); (case c => k_is); (case k => k_is))
      case T_go_rows_on => (refine' FV.def_mk (x := "go_rows_on") (st := FV.s_go_rows_on) (ps := ["state", "count"]) KX G ?a ?l ?c ?k (fun _ _ _ _ _ _ us hl => match us, hl with | [_, _], _ => rfl); (case a => k_is); (case l => k_is); (case c => k_is); (case k => k_is))
      case T_call_up => (refine' FV.def_mk (x := "call_up") (st := FV.s_call_up) (ps := ["state", "told"]) KX G ?a ?l ?c ?k (fun _ _ _ _ _ _ us hl => match us, hl with | [_, _], _ => rfl); (case a => k_is); (case l => k_is); (case c => k_is); (case k => k_is))
      case T_call_down => (refine' FV.def_mk (x := "call_down") (st := FV.s_call_down) (ps := ["state", "told"]) KX G ?a ?l ?c ?k (fun _ _ _ _ _ _ us hl => match us, hl with | [_, _], _ => rfl); (case a => k_is); (case l => k_is); (case c => k_is); (case k => k_is))
      case T_step_left => (refine' FV.def_mk (x := "step_left") (st := FV.s_step_left) (ps := ["state", "seen"]) KX G ?a ?l ?c ?k (fun _ _ _ _ _ _ us hl => match us, hl with | [_, _], _ => rfl); (case a => k_is); (case l => k_is); (case c => k_is); (case k => k_is))
      case T_step_right => (refine' FV.def_mk (x := "step_right") (st := FV.s_step_right) (ps := ["state", "seen"]) KX G ?a ?l ?c ?k (fun _ _ _ _ _ _ us hl => match us, hl with | [_, _], _ => rfl); (case a => k_is); (case l => k_is); (case c => k_is); (case k => k_is))
      case T_call_left => (refine' FV.def_mk (x := "call_left") (st := FV.s_call_left) (ps := ["state", "told"]) KX G ?a ?l ?c ?k (fun _ _ _ _ _ _ us hl => match us, hl with | [_, _], _ => rfl); (case a => k_is); (case l => k_is); (case c => k_is); (case k => k_is))
      case T_call_right => (refine' FV.def_mk (x := "call_right") (st := FV.s_call_right) (ps := ["state", "told"]) KX G ?a ?l ?c ?k (fun _ _ _ _ _ _ us hl => match us, hl with | [_, _], _ => rfl); (case a => k_is); (case l => k_is); (case c => k_is); (case k => k_is))
      case T_scroll_top => (refine' FV.def_mk (x := "scroll_top") (st := FV.s_scroll_top) (ps := ["state", "rows", "back", "count"]) KX G ?a ?l ?c ?k (fun _ _ _ _ _ _ us hl => match us, hl with | [_, _, _, _], _ => rfl); (case a => k_is); (case l => k_is); (case c => k_is); (case k => k_is))
      case T_first_free_row => (refine' FV.def_mk (x := "first_free_row") (st := FV.s_first_free_row) (ps := ["state"]) KX G ?a ?l ?c ?k (fun _ _ _ _ _ _ us hl => match us, hl with | [_], _ => rfl); (case a => k_is); (case l => k_is); (case c => k_is); (case k => k_is))
      case T_last_free_row => (refine' FV.def_mk (x := "last_free_row") (st := FV.s_last_free_row) (ps := ["state", "rows"]) KX G ?a ?l ?c ?k (fun _ _ _ _ _ _ us hl => match us, hl with | [_, _], _ => rfl); (case a => k_is); (case l => k_is); (case c => k_is); (case k => k_is))
      case T_call_scroll => (refine' FV.def_mk (x := "call_scroll") (st := FV.s_call_scroll) (ps := ["state", "told"]) KX G ?a ?l ?c ?k (fun _ _ _ _ _ _ us hl => match us, hl with | [_, _], _ => rfl); (case a => k_is); (case l => k_is); (case c => k_is); (case k => k_is))
      case T_call_point => (refine' FV.def_mk (x := "call_point") (st := FV.s_call_point) (ps := ["state", "told"]) KX G ?a ?l ?c ?k (fun _ _ _ _ _ _ us hl => match us, hl with | [_, _], _ => rfl); (case a => k_is); (case l => k_is); (case c => k_is); (case k => k_is))
      case T_call_shows => (refine' FV.def_mk (x := "call_shows") (st := FV.s_call_shows) (ps := ["state", "told"]) KX G ?a ?l ?c ?k (fun _ _ _ _ _ _ us hl => match us, hl with | [_, _], _ => rfl); (case a => k_is); (case l => k_is); (case c => k_is); (case k => k_is))
      case T_call_rows => (refine' FV.def_mk (x := "call_rows") (st := FV.s_call_rows) (ps := ["state", "told"]) KX G ?a ?l ?c ?k (fun _ _ _ _ _ _ us hl => match us, hl with | [_, _], _ => rfl); (case a => k_is); (case l => k_is); (case c => k_is); (case k => k_is))
      case T_call_at => (refine' FV.def_mk (x := "call_at") (st := FV.s_call_at) (ps := ["state", "told"]) KX G ?a ?l ?c ?k (fun _ _ _ _ _ _ us hl => match us, hl with | [_, _], _ => rfl); (case a => k_is); (case l => k_is); (case c => k_is); (case k => k_is))
      case T_call_where => (refine' FV.def_mk (x := "call_where") (st := FV.s_call_where) (ps := ["state", "told"]) KX G ?a ?l ?c ?k (fun _ _ _ _ _ _ us hl => match us, hl with | [_, _], _ => rfl); (case a => k_is); (case l => k_is); (case c => k_is); (case k => k_is))
      case T_answers => (refine' FV.def_mk (x := "answers") (st := FV.s_answers) (ps := ["calls"]) KX G ?a ?l ?c ?k (fun _ _ _ _ _ _ us hl => match us, hl with | [_], _ => rfl); (case a => k_is); (case l => k_is); (case c => k_is); (case k => k_is))
      case T_Look => (refine' FV.cls_mk (x := "Look") (q := "Look.__init__") (st := FV.s_initLook) (ps := ["self", "wide", "tab", "more", "hang", "words"]) KX G ?aC ?a ?i ?l ?c ?k ?pg ?hd ?po ?sa ?mk ?kc (fun _ _ _ _ _ _ us hl => match us, hl with | [_, _, _, _, _, _], _ => rfl); (case aC => k_is); (case a => k_is); (case i => k_is); (case l => k_is); (case c => k_is); (case k => k_is); (case pg => k_is); (case hd => k_is); (case po => k_is); (case sa => k_is); (case mk => k_is); (case kc => k_is))
      case n_Look_wide => k_is
      case n_Look_tab => k_is
      case n_Look_more => k_is
      case n_Look_hang => k_is
      case n_Look_words => k_is
      case T_Row => (refine' FV.cls_mk (x := "Row") (q := "Row.__init__") (st := FV.s_initRow) (ps := ["self", "line", "begin", "behind", "column"]) KX G ?aC ?a ?i ?l ?c ?k ?pg ?hd ?po ?sa ?mk ?kc (fun _ _ _ _ _ _ us hl => match us, hl with | [_, _, _, _, _], _ => rfl); (case aC => k_is); (case a => k_is); (case i => k_is); (case l => k_is); (case c => k_is); (case k => k_is); (case pg => k_is); (case hd => k_is); (case po => k_is); (case sa => k_is); (case mk => k_is); (case kc => k_is))
      case n_Row_line => k_is
      case n_Row_begin => k_is
      case n_Row_behind => k_is
      case n_Row_column => k_is
      case T_State => (refine' FV.cls_mk (x := "State") (q := "State.__init__") (st := FV.s_initState) (ps := ["self"]) KX G ?aC ?a ?i ?l ?c ?k ?pg ?hd ?po ?sa ?mk ?kc (fun _ _ _ _ _ _ us hl => match us, hl with | [_], _ => rfl); (case aC => k_is); (case a => k_is); (case i => k_is); (case l => k_is); (case c => k_is); (case k => k_is); (case pg => k_is); (case hd => k_is); (case po => k_is); (case sa => k_is); (case mk => k_is); (case kc => k_is))
      case n_State_look => k_is
      case n_State_lines => k_is
      case n_State_folds => k_is
      case n_State_line => k_is
      case n_State_place => k_is
      case n_State_wished => k_is
      case n_State_high => k_is
      case n_State_margin => k_is
      case n_State_top => k_is
      case v_TAB => k_is
      case v_LINE_FEED => k_is
      case v_MOST_LINES => k_is
      case v_MOST_BYTES => k_is
      case v_MOST_FOLDS => k_is
      case v_MOST_STEPS => k_is
      case v_WRONG => k_is
      case v_CLASH => k_is
      case v_FULL => k_is
      case v_MISSING => k_is
      case v_OUTSIDE => k_is
      case v_BLANKS => k_is
      case w_BLANKS => k_is
      case v_CALLS => k_is
      case w_CALLS => k_is
      case z_len => k_is
      case z_range => k_is
      case z_min => k_is
      case z_max => k_is
      case z_sorted => k_is
      case z_enumerate => k_is
      case z_all => k_is
    have e := hmg.symm.trans T.t_answers.g
    cases e
    obtain ⟨oc, od, kV, doc, pm, an, cdv, ct, osl, efd, lk, hcd⟩ := T.t_answers.F.ex
    exact ⟨A.d_answers, fun s us hu => (by rw [efd]; exact match us, hu with | [_], _ => .of_eq rfl), fun base _ _ => FV.ok_answers T⟩
  case S =>
    intro K H xs a hO hwi hask hx
    cases hx with
    | cons h1 h2 =>
      cases h2
      cases h1 with
      | lst hs ha =>
        have e := L2.ints_dw a.1 _ ha
        subst e
        exact ⟨_, a.1, rfl, hs, hask, hO, fun H' p hp => .lst (L2.SqL.of hp) (L2.dw_ints _)⟩
#print axioms PySem.Challenge.cw_foldview_s01_answers_holds

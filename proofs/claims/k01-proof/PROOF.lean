import PyProof.Rows.All
import Wide.All
import OpenK.AllK
import Wide.FinOn
import HandS.ForMost
import HandS.Evl
import HandS.Star
import HandS.DictComp
import HandS.Defaults
import HandS.WideBits
import HandS.SortInts
import HandS.Conv
import HandS.IntHex
import HandS.FStr
import HandS.SetFor
import HandS.Strs
import HandS.Flow
import HandS.IsInst
import HandS.Style
import HandS.Walk
import KE.GoesMore
import KE.KRevSl
import KE.KxField
import PySem.Challenge.RW_otherhand_k01_sums_by_two_or_what_bars_t
set_option Elab.async false
set_option linter.all false
set_option maxRecDepth 100000
set_option maxHeartbeats 4000000
namespace KM
/-! bits -/
def bl (m : Nat) : Nat := if m = 0 then 0 else m.log2 + 1
theorem bl_zero : bl 0 = 0 := rfl
theorem bl_lt (m : Nat) : m < 2 ^ bl m := by
  unfold bl
  split
  · subst_vars; decide
  · exact Nat.lt_log2_self
theorem bl_le_of_lt {m k : Nat} (h : m < 2 ^ k) : bl m ≤ k := by
  unfold bl
  split
  · exact Nat.zero_le _
  · rename_i h0
    exact (Nat.log2_lt h0).mpr h
theorem bl_top {m l : Nat} (h : bl m = l + 1) : m.testBit l = true := by
  unfold bl at h
  split at h
  · cases h
  · rename_i h0
    have e : m.log2 = l := by omega
    rw [← e]
    cases hb : m.testBit m.log2 with
    | true => rfl
    | false =>
      exfalso
      have h1 : m < 2 ^ m.log2 := Nat.lt_pow_two_of_testBit m fun i hi => by
        by_cases e2 : i = m.log2
        · rw [e2]; exact hb
        · exact Nat.testBit_lt_two_pow (Nat.lt_of_lt_of_le Nat.lt_log2_self (Nat.pow_le_pow_right (by decide) (by omega)))
      have h2 := Nat.log2_self_le h0
      omega
theorem bl_hi {m i : Nat} (h : bl m ≤ i) : m.testBit i = false :=
  Nat.testBit_lt_two_pow (Nat.lt_of_lt_of_le (bl_lt m) (Nat.pow_le_pow_right (by decide) h))
theorem bl_pos {m : Nat} (h : m ≠ 0) : 0 < bl m := by
  unfold bl
  rw [if_neg h]
  omega
theorem bl_ne {m l : Nat} (h : bl m = l + 1) : m ≠ 0 := by
  intro e
  subst e
  cases h
theorem bl_xor {m r l : Nat} (h1 : bl m = l + 1) (h2 : bl r = l + 1) : bl (m ^^^ r) ≤ l := by
  apply bl_le_of_lt
  refine Nat.lt_pow_two_of_testBit _ fun i hi => ?_
  rw [Nat.testBit_xor]
  by_cases e : i = l
  · subst e
    rw [bl_top h1, bl_top h2]
    rfl
  · rw [bl_hi (by omega), bl_hi (by omega)]
    rfl
/-! parity of a row of truths -/
def X : Nat → (Nat → Bool) → Bool
  | 0, _ => false
  | n + 1, p => (X n p) ^^ (p n)
theorem X_congr {p q : Nat → Bool} : ∀ {n : Nat}, (∀ i, i < n → p i = q i) → X n p = X n q
  | 0, _ => rfl
  | n + 1, h => by
    unfold X
    rw [X_congr (n := n) fun i hi => h i (by omega), h n (by omega)]
theorem X_xor {p q : Nat → Bool} : ∀ {n : Nat}, X n (fun i => p i ^^ q i) = (X n p ^^ X n q)
  | 0 => rfl
  | n + 1 => by
    unfold X
    rw [X_xor (n := n)]
    show ((X n p ^^ X n q) ^^ (p n ^^ q n)) = ((X n p ^^ p n) ^^ (X n q ^^ q n))
    cases X n p <;> cases X n q <;> cases p n <;> cases q n <;> rfl
theorem X_false {n : Nat} : X n (fun _ => false) = false := by
  induction n with
  | zero => rfl
  | succ n ih => unfold X; rw [ih]; rfl
theorem X_ext {p : Nat → Bool} {n : Nat} : ∀ {k : Nat}, (∀ i, n ≤ i → p i = false) → X (n + k) p = X n p
  | 0, _ => rfl
  | k + 1, h => by
    show (X (n + k) p ^^ p (n + k)) = X n p
    rw [X_ext (k := k) h, h (n + k) (by omega)]
    cases X n p <;> rfl
theorem X_one {n j : Nat} (h : j < n) {b : Bool} : X n (fun i => decide (i = j) && b) = b := by
  induction n with
  | zero => omega
  | succ n ih =>
    unfold X
    by_cases e : j = n
    · subst e
      rw [X_congr (q := fun _ => false) (fun i hi => by rw [decide_eq_false (show ¬ i = j by omega)]; rfl), X_false]
      simp
    · rw [ih (by omega)]
      show (b ^^ (decide (n = j) && b)) = b
      rw [decide_eq_false (show ¬ n = j by omega)]
      simp
theorem X_filter (p : Nat → Bool) : ∀ n : Nat, X n p = decide (((List.range n).filter p).length % 2 = 1)
  | 0 => rfl
  | n + 1 => by
    unfold X
    rw [X_filter p n, List.range_succ, List.filter_append, List.length_append]
    cases hp : p n with
    | true =>
      have e : (List.filter p [n]).length = 1 := by simp [hp]
      rw [e]
      by_cases h : ((List.range n).filter p).length % 2 = 1
      · rw [decide_eq_true h, decide_eq_false (by omega)]; rfl
      · rw [decide_eq_false h, decide_eq_true (by omega)]; rfl
    | false =>
      have e : (List.filter p [n]).length = 0 := by simp [hp]
      rw [e, Nat.add_zero]
      cases decide (((List.range n).filter p).length % 2 = 1) <;> rfl
/-! the bits of a number -/
def bits (m : Nat) : List Nat := (List.range (bl m)).filter fun i => m.testBit i
theorem mem_bits {m i : Nat} : i ∈ bits m ↔ m.testBit i = true := by
  unfold bits
  rw [List.mem_filter, List.mem_range]
  constructor
  · exact fun h => h.2
  · intro h
    refine ⟨?_, h⟩
    rcases Nat.lt_or_ge i (bl m) with h1 | h1
    · exact h1
    · rw [bl_hi h1] at h; cases h
theorem bits_pw (m : Nat) : (bits m).Pairwise (· < ·) := List.Pairwise.filter _ List.pairwise_lt_range
/-- parity of what two numbers share -/
def dot (a b : Nat) : Bool := decide ((bits (a &&& b)).length % 2 = 1)
theorem dot_X {a b n : Nat} (h : bl a ≤ n) : dot a b = X n (fun i => a.testBit i && b.testBit i) := by
  unfold dot bits
  rw [← X_filter]
  have e : (fun i => (a &&& b).testBit i) = fun i => a.testBit i && b.testBit i := by
    funext i
    exact Nat.testBit_and _ _ _
  rw [e]
  have hb : bl (a &&& b) ≤ n := Nat.le_trans (bl_le_of_lt (Nat.lt_pow_two_of_testBit _ fun i hi => by rw [Nat.testBit_and, bl_hi hi]; rfl)) h
  obtain ⟨k, hk⟩ := Nat.le.dest hb
  rw [← hk]
  refine (X_ext fun i hi => ?_).symm
  rw [← Nat.testBit_and]
  exact bl_hi hi
theorem dot_xor (a a' b : Nat) : dot (a ^^^ a') b = (dot a b ^^ dot a' b) := by
  have h3 : bl (a ^^^ a') ≤ max (bl a) (bl a') := by
    refine bl_le_of_lt (Nat.xor_lt_two_pow ?_ ?_)
    · exact Nat.lt_of_lt_of_le (bl_lt a) (Nat.pow_le_pow_right (by decide) (Nat.le_max_left _ _))
    · exact Nat.lt_of_lt_of_le (bl_lt a') (Nat.pow_le_pow_right (by decide) (Nat.le_max_right _ _))
  rw [dot_X (n := max (bl a) (bl a')) h3, dot_X (a := a) (n := max (bl a) (bl a')) (Nat.le_max_left _ _), dot_X (a := a') (n := max (bl a) (bl a')) (Nat.le_max_right _ _), ← X_xor]
  refine X_congr fun i _ => ?_
  rw [Nat.testBit_xor]
  cases a.testBit i <;> cases a'.testBit i <;> cases b.testBit i <;> rfl
theorem dot_zero (b : Nat) : dot 0 b = false := by
  unfold dot bits
  rw [Nat.zero_and]
  rfl
/-- one bit more on the right -/
theorem dot_or {a b j : Nat} (hb : b.testBit j = false) : dot a (b ||| 2 ^ j) = (dot a b ^^ a.testBit j) := by
  rw [dot_X (n := bl a + (j + 1)) (by omega), dot_X (n := bl a + (j + 1)) (by omega)]
  have e : X (bl a + (j + 1)) (fun i => decide (i = j) && a.testBit j) = a.testBit j := X_one (by omega)
  rw [← e, ← X_xor]
  refine X_congr fun i _ => ?_
  rw [Nat.testBit_or, Nat.testBit_two_pow]
  by_cases h : i = j
  · subst h
    rw [hb, decide_eq_true rfl]
    simp
  · rw [decide_eq_false h, decide_eq_false (fun e => h e.symm)]
    simp

/-! elimination -/
abbrev Bas := List (Nat × Nat × Nat)
def look (B : Bas) (l : Nat) : Option (Nat × Nat) := (B.find? fun e => decide (e.1 = l)).map (·.2)
theorem look_some {B : Bas} {l : Nat} {p : Nat × Nat} (h : look B l = some p) : (l, p) ∈ B := by
  unfold look at h
  cases e : B.find? fun e => decide (e.1 = l) with
  | none => rw [e] at h; cases h
  | some q =>
    rw [e] at h
    have h1 := List.find?_some e
    have h2 := List.mem_of_find?_eq_some e
    have e1 : q.1 = l := of_decide_eq_true h1
    have e2 : q.2 = p := Option.some.inj h
    rw [← e1, ← e2]
    exact h2
theorem look_none {B : Bas} {l : Nat} (h : look B l = none) : ∀ e ∈ B, e.1 ≠ l := by
  unfold look at h
  intro e he e1
  have h2 : B.find? (fun e => decide (e.1 = l)) = none := by simpa using h
  have := List.find?_eq_none.mp h2 e he
  exact this (decide_eq_true e1)
/-- each row has the length it stands under -/
def Good (B : Bas) : Prop := ∀ e ∈ B, bl e.2.1 = e.1 ∧ 0 < e.1
def lo (B : Bas) : Nat → Nat → Nat → Nat × Nat
  | 0, m, n => (m, n)
  | f + 1, m, n => match look B (bl m) with
    | none => (m, n)
    | some (r, o) => lo B f (m ^^^ r) (n ^^^ o)
theorem lo_stop {B : Bas} (g : Good B) : ∀ (f m n : Nat), bl m ≤ f → look B (bl (lo B f m n).1) = none
  | 0, m, n, h => by
    show look B (bl m) = none
    cases e : look B (bl m) with
    | none => rfl
    | some p =>
      have := (g _ (look_some e)).2
      have e0 : bl m = 0 := by omega
      simp only [e0] at this
      omega
  | f + 1, m, n, h => by
    unfold lo
    cases e : look B (bl m) with
    | none => exact e
    | some p =>
      obtain ⟨r, o⟩ := p
      obtain ⟨h1, h2⟩ := g _ (look_some e)
      have h1 : bl r = bl m := h1
      have h2 : 0 < bl m := h2
      show look B (bl (lo B f (m ^^^ r) (n ^^^ o)).1) = none
      refine lo_stop g f _ _ ?_
      have := bl_xor (m := m) (r := r) (l := bl m - 1) (by omega) (by omega)
      omega
/-- more fuel does nothing -/
theorem lo_fuel {B : Bas} (g : Good B) : ∀ (f k m n : Nat), bl m ≤ f → lo B (f + k) m n = lo B f m n
  | 0, 0, m, n, h => rfl
  | 0, k + 1, m, n, h => by
    show lo B (0 + k + 1) m n = (m, n)
    unfold lo
    cases e : look B (bl m) with
    | none => rfl
    | some p =>
      have := (g _ (look_some e)).2
      have e0 : bl m = 0 := by omega
      simp only [e0] at this
      omega
  | f + 1, k, m, n, h => by
    rw [show f + 1 + k = f + k + 1 by omega]
    unfold lo
    cases e : look B (bl m) with
    | none => rfl
    | some p =>
      obtain ⟨r, o⟩ := p
      obtain ⟨h1, h2⟩ := g _ (look_some e)
      have h1 : bl r = bl m := h1
      have h2 : 0 < bl m := h2
      have := bl_xor (m := m) (r := r) (l := bl m - 1) (by omega) (by omega)
      exact lo_fuel g f k _ _ (by omega)
def left (B : Bas) (m n : Nat) : Nat × Nat := lo B (bl m) m n
theorem left_go {B : Bas} (g : Good B) {m n r o : Nat} (h : look B (bl m) = some (r, o)) : left B m n = left B (m ^^^ r) (n ^^^ o) := by
  obtain ⟨h1, h2⟩ := g _ (look_some h)
  have h1 : bl r = bl m := h1
  have h2 : 0 < bl m := h2
  have h3 := bl_xor (m := m) (r := r) (l := bl m - 1) (by omega) (by omega)
  unfold left
  obtain ⟨f, hf⟩ : ∃ f, bl m = f + 1 := ⟨bl m - 1, by omega⟩
  have e : lo B (bl m) m n = lo B f (m ^^^ r) (n ^^^ o) := by
    rw [hf]
    show (match look B (bl m) with | none => (m, n) | some (r, o) => lo B f (m ^^^ r) (n ^^^ o)) = _
    rw [h]
  rw [e]
  obtain ⟨k, hk⟩ := Nat.le.dest (show bl (m ^^^ r) ≤ f by omega)
  rw [← hk]
  exact lo_fuel g _ k _ _ (Nat.le_refl _)
theorem left_end {B : Bas} {m n : Nat} (h : look B (bl m) = none) : left B m n = (m, n) := by
  unfold left
  cases e : bl m with
  | zero => rfl
  | succ f =>
    show (match look B (bl m) with | none => (m, n) | some (r, o) => lo B f (m ^^^ r) (n ^^^ o)) = _
    rw [h]
theorem left_stop {B : Bas} (g : Good B) (m n : Nat) : look B (bl (left B m n).1) = none := lo_stop g _ _ _ (Nat.le_refl _)
/-- what keeps to the rows and their numbers is kept: P m n, by one row and its numbers at a time -/
theorem lo_ind {B : Bas} {P : Nat → Nat → Prop} (hs : ∀ m n e, e ∈ B → P m n → P (m ^^^ e.2.1) (n ^^^ e.2.2)) : ∀ (f m n : Nat), P m n → P (lo B f m n).1 (lo B f m n).2
  | 0, m, n, h => h
  | f + 1, m, n, h => by
    unfold lo
    cases e : look B (bl m) with
    | none => exact h
    | some p => exact lo_ind hs f _ _ (hs m n _ (look_some e) h)
theorem left_ind {B : Bas} {P : Nat → Nat → Prop} (hs : ∀ m n e, e ∈ B → P m n → P (m ^^^ e.2.1) (n ^^^ e.2.2)) {m n : Nat} (h : P m n) : P (left B m n).1 (left B m n).2 := lo_ind hs _ _ _ h
theorem lo_le {B : Bas} (g : Good B) : ∀ (f m n : Nat), bl (lo B f m n).1 ≤ bl m
  | 0, m, n => Nat.le_refl _
  | f + 1, m, n => by
    unfold lo
    cases e : look B (bl m) with
    | none => exact Nat.le_refl _
    | some p =>
      obtain ⟨r, o⟩ := p
      obtain ⟨h1, h2⟩ := g _ (look_some e)
      have h1 : bl r = bl m := h1
      have h2 : 0 < bl m := h2
      have := bl_xor (m := m) (r := r) (l := bl m - 1) (by omega) (by omega)
      exact Nat.le_trans (lo_le g f _ _) (by omega)
theorem left_le {B : Bas} (g : Good B) (m n : Nat) : bl (left B m n).1 ≤ bl m := lo_le g _ _ _
/-- the next of the masks goes to the basis -/
def addTo (B : Bas) (at_ m : Nat) : Bas := if (left B m (2 ^ at_)).1 = 0 then B else B ++ [(bl (left B m (2 ^ at_)).1, left B m (2 ^ at_))]
def basFrom : Nat → Bas → List Nat → Bas
  | _, B, [] => B
  | i, B, m :: ms => basFrom (i + 1) (addTo B i m) ms
def bas (ms : List Nat) : Bas := basFrom 0 [] ms
theorem good_add {B : Bas} (g : Good B) (i m : Nat) : Good (addTo B i m) := by
  unfold addTo
  split
  · exact g
  · rename_i h
    intro e he
    rcases List.mem_append.mp he with h1 | h1
    · exact g e h1
    · rw [List.mem_singleton.mp h1]
      exact ⟨rfl, bl_pos h⟩
theorem basFrom_snoc : ∀ (ms : List Nat) (i : Nat) (B : Bas) (m : Nat), basFrom i B (ms ++ [m]) = addTo (basFrom i B ms) (i + ms.length) m
  | [], i, B, m => rfl
  | a :: ms, i, B, m => by
    show basFrom (i + 1) (addTo B i a) (ms ++ [m]) = addTo (basFrom (i + 1) (addTo B i a) ms) (i + (ms.length + 1)) m
    rw [basFrom_snoc ms, show i + 1 + ms.length = i + (ms.length + 1) by omega]
theorem bas_snoc (ms : List Nat) (m : Nat) : bas (ms ++ [m]) = addTo (bas ms) ms.length m := by
  unfold bas
  rw [basFrom_snoc, Nat.zero_add]
theorem good_from : ∀ (ms : List Nat) (i : Nat) (B : Bas), Good B → Good (basFrom i B ms)
  | [], _, _, g => g
  | m :: ms, i, B, g => good_from ms _ _ (good_add g i m)
theorem good_bas (ms : List Nat) : Good (bas ms) := good_from ms 0 [] (fun e he => by cases he)
/-- the sum by two of the masks whose numbers stand in n -/
def comb : List Nat → Nat → Nat
  | [], _ => 0
  | m :: ms, n => (if n.testBit 0 then m else 0) ^^^ comb ms (n / 2)
theorem comb_xor : ∀ (ms : List Nat) (a b : Nat), comb ms (a ^^^ b) = comb ms a ^^^ comb ms b
  | [], _, _ => by
    show 0 = 0 ^^^ 0
    rfl
  | m :: ms, a, b => by
    unfold comb
    have e : (a ^^^ b) / 2 = (a / 2) ^^^ (b / 2) := by
      apply Nat.eq_of_testBit_eq
      intro i
      rw [Nat.testBit_div_two, Nat.testBit_xor, Nat.testBit_xor, Nat.testBit_div_two, Nat.testBit_div_two]
    rw [e, comb_xor ms, Nat.testBit_xor]
    apply Nat.eq_of_testBit_eq
    intro i
    cases a.testBit 0 <;> cases b.testBit 0 <;> simp [Nat.testBit_xor]
    all_goals (cases m.testBit i <;> cases (comb ms (a / 2)).testBit i <;> cases (comb ms (b / 2)).testBit i <;> rfl)
theorem comb_zero : ∀ ms : List Nat, comb ms 0 = 0
  | [] => rfl
  | m :: ms => by
    unfold comb
    rw [Nat.zero_div, comb_zero ms]
    simp
theorem comb_one : ∀ (ms : List Nat) (i m : Nat), ms[i]? = some m → comb ms (2 ^ i) = m
  | [], i, m, h => by simp at h
  | a :: ms, 0, m, h => by
    have e : a = m := by simpa using h
    unfold comb
    rw [show (2 ^ 0) / 2 = 0 from rfl, comb_zero]
    simp [e]
  | a :: ms, i + 1, m, h => by
    unfold comb
    have e1 : (2 ^ (i + 1)) / 2 = 2 ^ i := by rw [Nat.pow_succ]; omega
    have e2 : (2 ^ (i + 1)).testBit 0 = false := by rw [Nat.testBit_two_pow]; simp
    rw [e1, e2, comb_one ms i m (by simpa using h)]
    simp
theorem comb_snoc : ∀ (ms : List Nat) (m n : Nat), comb (ms ++ [m]) n = comb ms n ^^^ (if n.testBit ms.length then m else 0)
  | [], m, n => by
    show (if n.testBit 0 then m else 0) ^^^ 0 = 0 ^^^ _
    simp
  | a :: ms, m, n => by
    show (if n.testBit 0 then a else 0) ^^^ comb (ms ++ [m]) (n / 2) = ((if n.testBit 0 then a else 0) ^^^ comb ms (n / 2)) ^^^ (if n.testBit (ms.length + 1) then m else 0)
    rw [comb_snoc ms, Nat.testBit_div_two, Nat.xor_assoc]
/-- the rows are what their numbers say -/
def Told (ms : List Nat) (B : Bas) : Prop := ∀ e ∈ B, comb ms e.2.2 = e.2.1 ∧ e.2.2 < 2 ^ ms.length
theorem xor_self_mid (a b : Nat) : a ^^^ b ^^^ b = a := by rw [Nat.xor_assoc, Nat.xor_self, Nat.xor_zero]
theorem told_bas : ∀ ms : List Nat, Told ms (bas ms) := by
  intro ms
  have key : ∀ r : List Nat, Told r.reverse (bas r.reverse) := by
    intro r
    induction r with
    | nil => exact fun e he => by cases he
    | cons m r ih =>
      rw [List.reverse_cons, bas_snoc]
      have old : ∀ e ∈ bas r.reverse, comb (r.reverse ++ [m]) e.2.2 = e.2.1 ∧ e.2.2 < 2 ^ (r.reverse ++ [m]).length := fun e he => by
        obtain ⟨h1, h2⟩ := ih e he
        rw [comb_snoc, h1, Nat.testBit_lt_two_pow h2]
        refine ⟨by simp, Nat.lt_of_lt_of_le h2 (Nat.pow_le_pow_right (by decide) (by simp))⟩
      intro e he
      unfold addTo at he
      split at he
      · exact old e he
      · rcases List.mem_append.mp he with h1 | h1
        · exact old e h1
        · rw [List.mem_singleton.mp h1]
          have k := left_ind (B := bas r.reverse) (P := fun a n => comb (r.reverse ++ [m]) n = a ∧ n < 2 ^ (r.reverse ++ [m]).length) (fun a n e he ⟨p1, p2⟩ => by
            obtain ⟨o1, o2⟩ := old e he
            exact ⟨by rw [comb_xor, p1, o1], Nat.xor_lt_two_pow p2 o2⟩) (m := m) (n := 2 ^ r.reverse.length) ⟨comb_one _ _ _ (by simp), Nat.pow_lt_pow_right (by decide) (by simp)⟩
          exact k
  have := key ms.reverse
  rw [List.reverse_reverse] at this
  exact this
/-- what is even with all rows is even with all masks -/
theorem even_all {b : Nat} : ∀ (r : List Nat), (∀ e ∈ bas r.reverse, dot e.2.1 b = false) → ∀ m ∈ r, dot m b = false
  | [], _, m, hm => by cases hm
  | a :: r, h, m, hm => by
    rw [List.reverse_cons, bas_snoc] at h
    have h0 : ∀ e ∈ bas r.reverse, dot e.2.1 b = false := fun e he => h e (by
      unfold addTo
      split
      · exact he
      · exact List.mem_append_left _ he)
    rcases List.mem_cons.mp hm with e | hm
    · rw [e]
      -- a: its row, or nothing is left
      have k := left_ind (B := bas r.reverse) (P := fun x _ => dot x b = dot a b) (fun x n e he p => by
        rw [dot_xor, h0 e he, p]
        cases dot a b <;> rfl) (m := a) (n := 2 ^ r.reverse.length) rfl
      rw [← k]
      by_cases z : (left (bas r.reverse) a (2 ^ r.reverse.length)).1 = 0
      · rw [z]
        exact dot_zero b
      · exact h (bl (left (bas r.reverse) a (2 ^ r.reverse.length)).1, left (bas r.reverse) a (2 ^ r.reverse.length)) (by
          unfold addTo
          rw [if_neg z]
          exact List.mem_append_right _ (List.mem_singleton.mpr rfl))
    · exact even_all r h0 m hm
theorem even_masks {ms : List Nat} {b : Nat} (h : ∀ e ∈ bas ms, dot e.2.1 b = false) : ∀ m ∈ ms, dot m b = false := fun m hm =>
  even_all ms.reverse (by rw [List.reverse_reverse]; exact h) m (List.mem_reverse.mpr hm)
end KM
namespace KM
/-! keys stand once -/
theorem keys_nd : ∀ (ms : List Nat) (i : Nat) (B : Bas), Good B → (B.map (·.1)).Nodup → ((basFrom i B ms).map (·.1)).Nodup
  | [], _, _, _, h => h
  | m :: ms, i, B, g, h => by
    refine keys_nd ms (i + 1) _ (good_add g i m) ?_
    unfold addTo
    split
    · exact h
    · rw [List.map_append]
      refine List.nodup_append.mpr ⟨h, by simp, fun a ha b hb e => ?_⟩
      obtain ⟨x, hx, e1⟩ := List.mem_map.mp ha
      have e2 : b = bl (left B m (2 ^ i)).1 := by simpa using hb
      exact look_none (left_stop g m (2 ^ i)) x hx (by rw [e1, e, e2])
theorem bas_nd (ms : List Nat) : ((bas ms).map (·.1)).Nodup := keys_nd ms 0 [] (fun e he => by cases he) (by simp)
theorem look_of {B : Bas} (nd : (B.map (·.1)).Nodup) {e : Nat × Nat × Nat} (he : e ∈ B) : look B e.1 = some e.2 := by
  induction B with
  | nil => cases he
  | cons b r ih =>
    have nd' : (b.1 :: r.map (·.1)).Nodup := nd
    obtain ⟨n1, n2⟩ := List.nodup_cons.mp nd'
    unfold look
    rw [List.find?_cons]
    rcases List.mem_cons.mp he with h | h
    · rw [h, decide_eq_true rfl] <;> rfl
    · have hne : ¬ b.1 = e.1 := fun z => n1 (by rw [z]; exact List.mem_map_of_mem h)
      rw [decide_eq_false hne]
      exact ih n2 h
/-! the bar -/
def barStep (B : Bas) (f l : Nat) : Nat := match look B l with
  | some (r, _) => if dot r f then f ||| 2 ^ (l - 1) else f
  | none => f
def barf (B : Bas) (ls : List Nat) (f : Nat) : Nat := ls.foldl (barStep B) f
structure BarI (B : Bas) (L : Nat) (done : List Nat) (f : Nat) : Prop where
  own : ∀ i, f.testBit i = true → i + 1 = L ∨ i + 1 ∈ done
  top : f.testBit (L - 1) = true
  even : ∀ e ∈ B, e.1 ∈ done → dot e.2.1 f = false
  low : ∀ i, i + 1 < L → f.testBit i = false
theorem bar_turn {B : Bas} {L l f : Nat} {done : List Nat} (g : Good B) (nd : (B.map (·.1)).Nodup) (hL : 0 < L) (hLB : ∀ e ∈ B, e.1 ≠ L) (hl : ∃ e ∈ B, e.1 = l) (hlt : ∀ d ∈ done, d < l) (I : BarI B L done f) : BarI B L (done ++ [l]) (barStep B f l) := by
  obtain ⟨e, he, rfl⟩ := hl
  have e1 := look_of nd he
  obtain ⟨g1, g2⟩ := g e he
  have hne : e.1 ≠ L := hLB e he
  have htop : e.2.1.testBit (e.1 - 1) = true := bl_top (by omega)
  have hbit : f.testBit (e.1 - 1) = false := by
    cases h : f.testBit (e.1 - 1) with
    | false => rfl
    | true =>
      rcases I.own _ h with h1 | h1
      · omega
      · have := hlt _ h1; omega
  have es : barStep B f e.1 = if dot e.2.1 f then f ||| 2 ^ (e.1 - 1) else f := by
    unfold barStep
    rw [e1]
  have uniq : ∀ x ∈ B, x.1 = e.1 → x = e := fun x hx z => by
    have e2 := look_of nd hx
    rw [z, e1] at e2
    exact Prod.ext z (Option.some.inj e2).symm
  rw [es]
  cases hd : dot e.2.1 f with
  | false =>
    refine ⟨fun i hi => ?_, I.top, fun x hx hx2 => ?_, I.low⟩
    · rcases I.own i hi with h | h
      · exact .inl h
      · exact .inr (List.mem_append_left _ h)
    · rcases List.mem_append.mp hx2 with h | h
      · exact I.even x hx h
      · rw [uniq x hx (List.mem_singleton.mp h)]
        exact hd
  | true =>
    have hbig : L < e.1 := by
      rcases Nat.lt_or_ge L e.1 with h | h
      · exact h
      · exfalso
        have z : dot e.2.1 f = false := by
          rw [dot_X (Nat.le_refl _), X_congr (q := fun _ => false) (fun i hi => by rw [I.low i (by omega), Bool.and_false]), X_false]
        rw [z] at hd
        cases hd
    show BarI B L (done ++ [e.1]) (f ||| 2 ^ (e.1 - 1))
    refine ⟨fun i hi => ?_, by rw [Nat.testBit_or, I.top]; rfl, fun x hx hx2 => ?_, fun i hi => ?_⟩
    · rw [Nat.testBit_or, Nat.testBit_two_pow] at hi
      rcases (Bool.or_eq_true _ _).mp hi with h | h
      · rcases I.own i h with h | h
        · exact .inl h
        · exact .inr (List.mem_append_left _ h)
      · have := of_decide_eq_true h
        exact .inr (List.mem_append_right _ (List.mem_singleton.mpr (by omega)))
    · rw [dot_or hbit]
      rcases List.mem_append.mp hx2 with h | h
      · rw [I.even x hx h, bl_hi (by have := hlt _ h; have := (g x hx).1; omega)]
        rfl
      · rw [uniq x hx (List.mem_singleton.mp h), hd, htop]
        rfl
    · rw [Nat.testBit_or, I.low i hi, Nat.testBit_two_pow, decide_eq_false (by omega)]
      rfl
theorem bar_run {B : Bas} {L : Nat} (g : Good B) (nd : (B.map (·.1)).Nodup) (hL : 0 < L) (hLB : ∀ e ∈ B, e.1 ≠ L) : ∀ (ls done : List Nat) (f : Nat), (∀ l ∈ ls, ∃ e ∈ B, e.1 = l) → (done ++ ls).Pairwise (· < ·) → BarI B L done f → BarI B L (done ++ ls) (barf B ls f)
  | [], done, f, _, _, I => by rw [List.append_nil]; exact I
  | l :: ls, done, f, hl, hp, I => by
    have e : done ++ l :: ls = done ++ [l] ++ ls := by simp
    rw [e]
    rw [e] at hp
    exact bar_run g nd hL hLB ls (done ++ [l]) (barStep B f l) (fun x hx => hl x (List.mem_cons_of_mem _ hx)) hp
      (bar_turn g nd hL hLB (hl l List.mem_cons_self) (fun d hd => by
        have h := (List.pairwise_append.mp (List.pairwise_append.mp hp).1).2.2
        exact h d hd l (List.mem_singleton.mpr rfl)) I)
theorem bar_start {B : Bas} {L : Nat} (hL : 0 < L) : BarI B L [] (2 ^ (L - 1)) := by
  refine ⟨fun i hi => ?_, by rw [Nat.testBit_two_pow]; simp, fun e _ h => (by cases h), fun i hi => by rw [Nat.testBit_two_pow, decide_eq_false (by omega)]⟩
  rw [Nat.testBit_two_pow] at hi
  have := of_decide_eq_true hi
  exact .inl (by omega)
/-- the bar is even with all masks, odd with what is left of the lot -/
theorem bar_all {ms : List Nat} {m n : Nat} {ls : List Nat} (hz : (left (bas ms) m n).1 ≠ 0) (hls : ls.Pairwise (· < ·)) (hk : ∀ l, l ∈ ls ↔ ∃ e ∈ bas ms, e.1 = l) :
    (∀ x ∈ ms, dot x (barf (bas ms) ls (2 ^ (bl (left (bas ms) m n).1 - 1))) = false) ∧ dot m (barf (bas ms) ls (2 ^ (bl (left (bas ms) m n).1 - 1))) = true := by
  have g := good_bas ms
  have hL := bl_pos hz
  have I := bar_run g (bas_nd ms) hL (look_none (left_stop g m n)) ls [] _ (fun l hl => (hk l).mp hl) hls (bar_start hL)
  rw [List.nil_append] at I
  have ev : ∀ e ∈ bas ms, dot e.2.1 (barf (bas ms) ls (2 ^ (bl (left (bas ms) m n).1 - 1))) = false := fun e he => I.even e he ((hk _).mpr ⟨e, he, rfl⟩)
  refine ⟨even_masks ev, ?_⟩
  have k := left_ind (B := bas ms) (P := fun x _ => dot x (barf (bas ms) ls (2 ^ (bl (left (bas ms) m n).1 - 1))) = dot m (barf (bas ms) ls (2 ^ (bl (left (bas ms) m n).1 - 1)))) (fun x n e he p => by
    rw [dot_xor, ev e he, p]
    cases dot m _ <;> rfl) (m := m) (n := n) rfl
  rw [← k]
  generalize hl : bl (left (bas ms) m n).1 = L at *
  rw [dot_X (Nat.le_refl _), hl]
  obtain ⟨l, rfl⟩ : ∃ l, L = l + 1 := ⟨L - 1, by omega⟩
  unfold X
  rw [X_congr (q := fun _ => false) (fun i hi => by rw [I.low i (by omega), Bool.and_false]), X_false]
  have t := I.top
  have hs : l + 1 - 1 = l := rfl
  rw [hs] at t
  show (false ^^ ((left (bas ms) m n).1.testBit l && (barf (bas ms) ls (2 ^ (l + 1 - 1))).testBit l)) = true
  rw [bl_top hl, hs, t]
  rfl
/-- how far the bar reaches -/
theorem barf_lt {B : Bas} {N : Nat} (g : ∀ e ∈ B, e.1 ≤ N) : ∀ (ls : List Nat) (f : Nat), f < 2 ^ N → (∀ l ∈ ls, 0 < l) → barf B ls f < 2 ^ N
  | [], f, h, _ => h
  | l :: ls, f, h, hp => by
    refine barf_lt g ls _ ?_ fun x hx => hp x (List.mem_cons_of_mem _ hx)
    unfold barStep
    cases e : look B l with
    | none => exact h
    | some p =>
      have h1 := g _ (look_some e)
      have h2 := hp l List.mem_cons_self
      have h1 : l ≤ N := h1
      show (if dot p.1 f then f ||| 2 ^ (l - 1) else f) < 2 ^ N
      split
      · exact Nat.or_lt_two_pow h (Nat.pow_lt_pow_right (by decide) (by omega))
      · exact h
theorem keys_le {N : Nat} : ∀ (ms : List Nat) (i : Nat) (B : Bas), Good B → (∀ m ∈ ms, m < 2 ^ N) → (∀ e ∈ B, e.1 ≤ N) → ∀ e ∈ basFrom i B ms, e.1 ≤ N
  | [], _, _, _, _, h => h
  | m :: ms, i, B, g, hm, h => keys_le ms (i + 1) _ (good_add g i m) (fun x hx => hm x (List.mem_cons_of_mem _ hx)) (by
    unfold addTo
    split
    · exact h
    · intro e he
      rcases List.mem_append.mp he with h1 | h1
      · exact h e h1
      · rw [List.mem_singleton.mp h1]
        exact Nat.le_trans (left_le g _ _) (bl_le_of_lt (hm m List.mem_cons_self)))
/-! two ascending rows with the same members are one -/
theorem asc_ext : ∀ {a b : List Int}, a.Pairwise (· < ·) → b.Pairwise (· < ·) → (∀ x, x ∈ a ↔ x ∈ b) → a = b
  | [], [], _, _, _ => rfl
  | [], y :: b, _, _, h => absurd ((h y).mpr List.mem_cons_self) (by simp)
  | x :: a, [], _, _, h => absurd ((h x).mp List.mem_cons_self) (by simp)
  | x :: a, y :: b, ha, hb, h => by
    obtain ⟨a1, a2⟩ := List.pairwise_cons.mp ha
    obtain ⟨b1, b2⟩ := List.pairwise_cons.mp hb
    have e : x = y := by
      rcases List.mem_cons.mp ((h x).mp List.mem_cons_self) with e | e
      · exact e
      · rcases List.mem_cons.mp ((h y).mpr List.mem_cons_self) with e2 | e2
        · exact e2.symm
        · have := a1 y e2; have := b1 x e; omega
    subst e
    rw [asc_ext a2 b2 fun z => ⟨fun hz => by
      rcases List.mem_cons.mp ((h z).mp (List.mem_cons_of_mem _ hz)) with q | q
      · have := a1 z hz; omega
      · exact q, fun hz => by
      rcases List.mem_cons.mp ((h z).mpr (List.mem_cons_of_mem _ hz)) with q | q
      · have := b1 z hz; omega
      · exact q⟩]
theorem ascN_ext {a b : List Nat} (ha : a.Pairwise (· < ·)) (hb : b.Pairwise (· < ·)) (h : ∀ x, x ∈ a ↔ x ∈ b) : a = b := by
  have e := asc_ext (a := a.map Int.ofNat) (b := b.map Int.ofNat) (List.pairwise_map.mpr (ha.imp fun z => Int.ofNat_lt.mpr z)) (List.pairwise_map.mpr (hb.imp fun z => Int.ofNat_lt.mpr z)) (fun x => by
    rw [List.mem_map, List.mem_map]
    exact ⟨fun ⟨y, h1, h2⟩ => ⟨y, (h y).mp h1, h2⟩, fun ⟨y, h1, h2⟩ => ⟨y, (h y).mpr h1, h2⟩⟩)
  exact List.map_inj_right (fun x y z => Int.ofNat.inj z) |>.mp e
/-! the numbers of lots, ascending -/
def ins (x : Int) : List Int → List Int
  | [] => [x]
  | y :: r => if x < y then x :: y :: r else if x = y then y :: r else y :: ins x r
theorem mem_ins {x z : Int} : ∀ {l : List Int}, z ∈ ins x l ↔ z = x ∨ z ∈ l
  | [] => by simp [ins]
  | y :: r => by
    unfold ins
    split
    · simp
    · split
      · rename_i e; subst e; simp
      · rw [List.mem_cons, mem_ins (l := r), List.mem_cons]
        constructor
        · rintro (h | h | h)
          · exact .inr (.inl h)
          · exact .inl h
          · exact .inr (.inr h)
        · rintro (h | h | h)
          · exact .inr (.inl h)
          · exact .inl h
          · exact .inr (.inr h)
theorem asc_ins {x : Int} : ∀ {l : List Int}, l.Pairwise (· < ·) → (ins x l).Pairwise (· < ·)
  | [], _ => by simp [ins]
  | y :: r, h => by
    obtain ⟨h1, h2⟩ := List.pairwise_cons.mp h
    unfold ins
    split
    · rename_i hx
      refine List.pairwise_cons.mpr ⟨fun z hz => ?_, h⟩
      rcases List.mem_cons.mp hz with e | e
      · omega
      · have := h1 z e; omega
    · split
      · exact h
      · refine List.pairwise_cons.mpr ⟨fun z hz => ?_, asc_ins h2⟩
        rcases mem_ins.mp hz with e | e
        · omega
        · exact h1 z e
def asc (l : List Int) : List Int := l.foldr ins []
theorem mem_asc {z : Int} : ∀ {l : List Int}, z ∈ asc l ↔ z ∈ l
  | [] => Iff.rfl
  | x :: l => by
    show z ∈ ins x (asc l) ↔ _
    rw [mem_ins, mem_asc (l := l), List.mem_cons]
theorem asc_pw : ∀ (l : List Int), (asc l).Pairwise (· < ·)
  | [] => List.Pairwise.nil
  | x :: l => asc_ins (asc_pw l)
theorem len_ins {x : Int} : ∀ (l : List Int), (ins x l).length ≤ l.length + 1
  | [] => Nat.le_refl _
  | y :: r => by
    unfold ins
    have := len_ins (x := x) r
    split
    · simp
    · split
      · simp
      · simp; omega
theorem len_asc : ∀ (l : List Int), (asc l).length ≤ l.length
  | [] => Nat.le_refl _
  | x :: l => Nat.le_trans (len_ins _) (Nat.succ_le_succ (len_asc l))
/-! masks of lots -/
def mk : List Int → List Int → Nat
  | [], _ => 0
  | x :: ms, lot => (if x ∈ lot then 1 else 0) + 2 * mk ms lot
theorem mk_bit : ∀ (ms lot : List Int) (i : Nat), (mk ms lot).testBit i = match ms[i]? with | some x => decide (x ∈ lot) | none => false
  | [], lot, i => by simp [mk]
  | x :: ms, lot, 0 => by
    unfold mk
    rw [Nat.testBit_zero]
    by_cases h : x ∈ lot
    · rw [if_pos h]
      simp [h]
    · rw [if_neg h]
      simp [h]
  | x :: ms, lot, i + 1 => by
    unfold mk
    rw [Nat.testBit_succ]
    have e : ((if x ∈ lot then 1 else 0) + 2 * mk ms lot) / 2 = mk ms lot := by split <;> omega
    rw [e, mk_bit ms lot i]
    rfl
theorem mk_lt : ∀ (ms lot : List Int), mk ms lot < 2 ^ ms.length
  | [], _ => Nat.zero_lt_one
  | x :: ms, lot => by
    unfold mk
    have := mk_lt ms lot
    rw [List.length_cons, Nat.pow_succ]
    split <;> omega
end KM
namespace KM
/-! parities over rows -/
def XL {α : Type} (l : List α) (p : α → Bool) : Bool := l.foldr (fun a b => p a ^^ b) false
theorem XL_filter {α : Type} (p : α → Bool) : ∀ l : List α, XL l p = decide ((l.filter p).length % 2 = 1)
  | [] => rfl
  | a :: l => by
    show (p a ^^ XL l p) = _
    rw [XL_filter p l, List.filter_cons]
    cases p a with
    | true =>
      rw [if_pos rfl, List.length_cons]
      by_cases h : (l.filter p).length % 2 = 1
      · rw [decide_eq_true h, decide_eq_false (by omega)]; rfl
      · rw [decide_eq_false h, decide_eq_true (by omega)]; rfl
    | false =>
      rw [if_neg Bool.false_ne_true]
      cases decide ((l.filter p).length % 2 = 1) <;> rfl
theorem XL_congr {α : Type} {p q : α → Bool} : ∀ {l : List α}, (∀ a ∈ l, p a = q a) → XL l p = XL l q
  | [], _ => rfl
  | a :: l, h => by
    show (p a ^^ XL l p) = (q a ^^ XL l q)
    rw [h a List.mem_cons_self, XL_congr (l := l) fun b hb => h b (List.mem_cons_of_mem _ hb)]
theorem XL_xor {α : Type} {p q : α → Bool} : ∀ {l : List α}, XL l (fun a => p a ^^ q a) = (XL l p ^^ XL l q)
  | [] => rfl
  | a :: l => by
    show ((p a ^^ q a) ^^ XL l (fun a => p a ^^ q a)) = ((p a ^^ XL l p) ^^ (q a ^^ XL l q))
    rw [XL_xor (l := l)]
    cases p a <;> cases q a <;> cases XL l p <;> cases XL l q <;> rfl
theorem XL_false {α : Type} : ∀ {l : List α}, XL l (fun _ => false) = false
  | [] => rfl
  | a :: l => by
    show (false ^^ XL l (fun _ => false)) = false
    rw [XL_false (l := l)]
    rfl
theorem XL_swap {α β : Type} {p : α → β → Bool} {m : List β} : ∀ {l : List α}, XL l (fun a => XL m (p a)) = XL m (fun b => XL l (fun a => p a b))
  | [] => XL_false.symm
  | a :: l => by
    show (XL m (p a) ^^ XL l (fun a => XL m (p a))) = XL m (fun b => p a b ^^ XL l (fun a => p a b))
    rw [XL_swap (l := l), XL_xor]
theorem XL_map {α β : Type} {f : α → β} {p : β → Bool} : ∀ {l : List α}, XL (l.map f) p = XL l (fun a => p (f a))
  | [] => rfl
  | a :: l => by
    show (p (f a) ^^ XL (l.map f) p) = _
    rw [XL_map (l := l)]
    rfl
/-! what the program tells -/
def marks (lots : List (List Int)) (lot : List Int) : List Int := asc (lots.flatten ++ lot)
def basL (lots : List (List Int)) (lot : List Int) : Bas := bas (lots.map (mk (marks lots lot)))
def leftL (lots : List (List Int)) (lot : List Int) : Nat × Nat := left (basL lots lot) (mk (marks lots lot) lot) 0
def sumF (lots : List (List Int)) (lot : List Int) : Option (List Nat) := if (leftL lots lot).1 = 0 then some (bits (leftL lots lot).2) else none
def keysL (lots : List (List Int)) (lot : List Int) : List Nat := (asc ((basL lots lot).map fun e => (e.1 : Int))).map Int.toNat
def foundL (lots : List (List Int)) (lot : List Int) : Nat := barf (basL lots lot) (keysL lots lot) (2 ^ (bl (leftL lots lot).1 - 1))
def barL (lots : List (List Int)) (lot : List Int) : List Int := (bits (foundL lots lot)).map fun i => (marks lots lot).getD i 0
def barF (lots : List (List Int)) (lot : List Int) : Option (List Int) := if (leftL lots lot).1 = 0 then none else some (barL lots lot)
theorem mem_marks {lots : List (List Int)} {lot : List Int} {x : Int} : x ∈ marks lots lot ↔ (∃ l ∈ lots, x ∈ l) ∨ x ∈ lot := by
  unfold marks
  rw [mem_asc, List.mem_append, List.mem_flatten]
theorem keysL_mem {lots : List (List Int)} {lot : List Int} {l : Nat} : l ∈ keysL lots lot ↔ ∃ e ∈ basL lots lot, e.1 = l := by
  unfold keysL
  rw [List.mem_map]
  constructor
  · rintro ⟨z, hz, rfl⟩
    rw [mem_asc, List.mem_map] at hz
    obtain ⟨e, he, rfl⟩ := hz
    exact ⟨e, he, by simp⟩
  · rintro ⟨e, he, rfl⟩
    exact ⟨(e.1 : Int), mem_asc.mpr (List.mem_map.mpr ⟨e, he, rfl⟩), by simp⟩
theorem keysL_pw (lots : List (List Int)) (lot : List Int) : (keysL lots lot).Pairwise (· < ·) := by
  unfold keysL
  rw [List.pairwise_map]
  refine List.Pairwise.imp_of_mem (fun {a b} ha hb h => ?_) (asc_pw _)
  have hn : ∀ z ∈ asc ((basL lots lot).map fun e => (e.1 : Int)), 0 ≤ z := fun z hz => by
    rw [mem_asc, List.mem_map] at hz
    obtain ⟨e, _, rfl⟩ := hz
    exact Int.natCast_nonneg _
  have := hn a ha
  have := hn b hb
  omega
theorem X_succ (n : Nat) (p : Nat → Bool) : X (n + 1) p = (X n p ^^ p n) := rfl
theorem masks_bit {lots : List (List Int)} {ms : List Int} {i : Nat} {x : Int} (hx : ms[i]? = some x) : ∀ (n : Nat), (comb (lots.map (mk ms)) n).testBit i = X lots.length (fun k => n.testBit k && match lots[k]? with | some l => decide (x ∈ l) | none => false) := by
  have key : ∀ (r : List (List Int)) (n : Nat), (comb (r.reverse.map (mk ms)) n).testBit i = X r.reverse.length (fun k => n.testBit k && match r.reverse[k]? with | some l => decide (x ∈ l) | none => false) := by
    intro r
    induction r with
    | nil => intro n; simp [comb, X]
    | cons a r ih =>
      intro n
      rw [List.reverse_cons, List.map_append, List.map_singleton, comb_snoc, Nat.testBit_xor, ih, List.length_append, List.length_singleton, List.length_map, X_succ]
      congr 1
      · refine X_congr fun k hk => ?_
        rw [List.getElem?_append_left hk]
      · show _ = (n.testBit r.reverse.length && match (r.reverse ++ [a])[r.reverse.length]? with | some l => decide (x ∈ l) | none => false)
        rw [List.getElem?_append_right (Nat.le_refl _), Nat.sub_self]
        cases n.testBit r.reverse.length with
        | true =>
          show (mk ms a).testBit i = (true && decide (x ∈ a))
          rw [mk_bit, hx]
          rfl
        | false => simp
  intro n
  have := key lots.reverse n
  rw [List.reverse_reverse] at this
  exact this
theorem X_bits {n N : Nat} (h : n < 2 ^ N) (p : Nat → Bool) : X N (fun k => n.testBit k && p k) = XL (bits n) p := by
  rw [XL_filter, X_filter]
  unfold bits
  rw [List.filter_filter]
  have e : ∀ k, ((List.range (bl n + k)).filter fun a => n.testBit a && p a) = (List.range (bl n)).filter (fun a => p a && n.testBit a) := by
    intro k
    induction k with
    | zero =>
      refine List.filter_congr fun a _ => ?_
      exact Bool.and_comm _ _
    | succ k ih =>
      rw [← Nat.add_assoc, List.range_succ, List.filter_append, ih, List.filter_cons, bl_hi (by omega : bl n ≤ bl n + k)]
      simp
  obtain ⟨k, hk⟩ := Nat.le.dest (bl_le_of_lt h)
  rw [← hk, e k]
/-- the numbers that are told do it -/
theorem sum_right {lots : List (List Int)} {lot : List Int} {ns : List Nat} (h : sumF lots lot = some ns) : ns.Pairwise (· < ·) ∧ (∀ n ∈ ns, n < lots.length) ∧ ∀ x, decide (x ∈ lot) = XL ns (fun k => match lots[k]? with | some l => decide (x ∈ l) | none => false) := by
  unfold sumF at h
  split at h
  · rename_i hz
    have e : bits (leftL lots lot).2 = ns := Option.some.inj h
    have tb := told_bas (lots.map (mk (marks lots lot)))
    have k := left_ind (B := basL lots lot) (P := fun a n => a ^^^ comb (lots.map (mk (marks lots lot))) n = mk (marks lots lot) lot ∧ n < 2 ^ lots.length) (fun a n e he ⟨p1, p2⟩ => by
      obtain ⟨o1, o2⟩ := tb e he
      rw [List.length_map] at o2
      refine ⟨?_, Nat.xor_lt_two_pow p2 o2⟩
      rw [comb_xor, o1, ← p1]
      apply Nat.eq_of_testBit_eq
      intro i
      simp only [Nat.testBit_xor]
      cases a.testBit i <;> cases e.2.1.testBit i <;> cases (comb (lots.map (mk (marks lots lot))) n).testBit i <;> rfl) (m := mk (marks lots lot) lot) (n := 0) ⟨by rw [comb_zero, Nat.xor_zero], Nat.two_pow_pos _⟩
    have k1 : (leftL lots lot).1 ^^^ comb (lots.map (mk (marks lots lot))) (leftL lots lot).2 = mk (marks lots lot) lot := k.1
    have k2 : (leftL lots lot).2 < 2 ^ lots.length := k.2
    rw [hz, Nat.zero_xor] at k1
    subst e
    refine ⟨bits_pw _, fun n hn => ?_, fun x => ?_⟩
    · rcases Nat.lt_or_ge n lots.length with h1 | h1
      · exact h1
      · have := mem_bits.mp hn
        rw [Nat.testBit_lt_two_pow (Nat.lt_of_lt_of_le k2 (Nat.pow_le_pow_right (by decide) h1))] at this
        cases this
    · by_cases hx : x ∈ marks lots lot
      · obtain ⟨i, hi⟩ := List.getElem?_of_mem hx
        have e1 : (mk (marks lots lot) lot).testBit i = decide (x ∈ lot) := by rw [mk_bit, hi]
        rw [← e1, ← k1, masks_bit hi, X_bits k2]
      · have n1 : ¬ x ∈ lot := fun z => hx (mem_marks.mpr (.inr z))
        rw [decide_eq_false n1]
        refine ((XL_congr (q := fun _ => false) fun k _ => ?_).trans XL_false).symm
        cases e : lots[k]? with
        | none => rfl
        | some l => exact decide_eq_false fun z => hx (mem_marks.mpr (.inl ⟨l, List.mem_of_getElem? e, z⟩))
  · cases h
theorem getD_of {l : List Int} {i : Nat} {x : Int} (h : l[i]? = some x) : l.getD i 0 = x := by
  rw [List.getD_eq_getElem?_getD, h]
  rfl
theorem found_lt (lots : List (List Int)) (lot : List Int) (hz : (leftL lots lot).1 ≠ 0) : foundL lots lot < 2 ^ (marks lots lot).length := by
  have g := good_bas (lots.map (mk (marks lots lot)))
  have hk : ∀ e ∈ basL lots lot, e.1 ≤ (marks lots lot).length := keys_le _ 0 [] (fun e he => by cases he) (fun m hm => by
    obtain ⟨l, _, rfl⟩ := List.mem_map.mp hm
    exact mk_lt _ _) (fun e he => by cases he)
  refine barf_lt hk _ _ ?_ fun l hl => ?_
  · have h1 : bl (leftL lots lot).1 ≤ bl (mk (marks lots lot) lot) := left_le g _ _
    have h2 := bl_le_of_lt (mk_lt (marks lots lot) lot)
    have h3 := bl_pos hz
    exact Nat.pow_lt_pow_right (by decide) (by omega)
  · obtain ⟨e, he, rfl⟩ := keysL_mem.mp hl
    exact (g e he).2
/-- what the bar has in common with a lot -/
theorem bar_common (lots : List (List Int)) (lot l : List Int) (hz : (leftL lots lot).1 ≠ 0) : XL (barL lots lot) (fun x => decide (x ∈ l)) = dot (mk (marks lots lot) l) (foundL lots lot) := by
  unfold barL
  rw [XL_map, dot_X (n := (marks lots lot).length) (bl_le_of_lt (mk_lt _ _))]
  have e := X_bits (found_lt lots lot hz) (fun i => (mk (marks lots lot) l).testBit i)
  rw [show (fun i => (mk (marks lots lot) l).testBit i && (foundL lots lot).testBit i) = fun i => (foundL lots lot).testBit i && (mk (marks lots lot) l).testBit i from funext fun i => Bool.and_comm _ _, e]
  refine XL_congr fun i hi => ?_
  have hb := mem_bits.mp hi
  have hlt : i < (marks lots lot).length := by
    rcases Nat.lt_or_ge i (marks lots lot).length with h | h
    · exact h
    · rw [Nat.testBit_lt_two_pow (Nat.lt_of_lt_of_le (found_lt lots lot hz) (Nat.pow_le_pow_right (by decide) h))] at hb
      cases hb
  rw [mk_bit, List.getElem?_eq_getElem hlt, List.getD_eq_getElem?_getD, List.getElem?_eq_getElem hlt]
  rfl
theorem bar_right {lots : List (List Int)} {lot : List Int} {b : List Int} (h : barF lots lot = some b) : b.Pairwise (· < ·) ∧ (∀ l ∈ lots, XL b (fun x => decide (x ∈ l)) = false) ∧ XL b (fun x => decide (x ∈ lot)) = true := by
  unfold barF at h
  split at h
  · cases h
  · rename_i hz
    have e : barL lots lot = b := Option.some.inj h
    subst e
    obtain ⟨h1, h2⟩ := bar_all (ms := lots.map (mk (marks lots lot))) (m := mk (marks lots lot) lot) (n := 0) hz (keysL_pw lots lot) (fun l => keysL_mem)
    refine ⟨?_, fun l hl => ?_, ?_⟩
    · unfold barL
      rw [List.pairwise_map]
      refine List.Pairwise.imp_of_mem (fun {a c} ha hc hac => ?_) (bits_pw _)
      have hb : ∀ i ∈ bits (foundL lots lot), i < (marks lots lot).length := fun i hi => by
        rcases Nat.lt_or_ge i (marks lots lot).length with h | h
        · exact h
        · have hb := mem_bits.mp hi
          rw [Nat.testBit_lt_two_pow (Nat.lt_of_lt_of_le (found_lt lots lot hz) (Nat.pow_le_pow_right (by decide) h))] at hb
          cases hb
      have l1 := hb a ha
      have l2 := hb c hc
      rw [getD_of (List.getElem?_eq_getElem l1), getD_of (List.getElem?_eq_getElem l2)]
      exact List.pairwise_iff_getElem.mp (asc_pw _) a c l1 l2 hac
    · rw [bar_common lots lot l hz]
      exact h1 _ (List.mem_map_of_mem hl)
    · rw [bar_common lots lot lot hz]
      exact h2
theorem one_of_both (lots : List (List Int)) (lot : List Int) : (∃ ns, sumF lots lot = some ns ∧ barF lots lot = none) ∨ ∃ b, sumF lots lot = none ∧ barF lots lot = some b := by
  unfold sumF barF
  by_cases h : (leftL lots lot).1 = 0
  · rw [if_pos h, if_pos h]; exact .inl ⟨_, rfl, rfl⟩
  · rw [if_neg h, if_neg h]; exact .inr ⟨_, rfl, rfl⟩
/-- a lot that is barred is no sum -/
theorem barred {lots : List (List Int)} {lot b : List Int} (h1 : ∀ l ∈ lots, XL b (fun x => decide (x ∈ l)) = false) (h2 : XL b (fun x => decide (x ∈ lot)) = true) (ns : List Nat)
    (h : ∀ x, decide (x ∈ lot) = XL ns (fun k => match lots[k]? with | some l => decide (x ∈ l) | none => false)) : False := by
  have e : XL b (fun x => decide (x ∈ lot)) = XL b (fun x => XL ns (fun k => match lots[k]? with | some l => decide (x ∈ l) | none => false)) := XL_congr fun x _ => h x
  rw [e, XL_swap, (XL_congr (q := fun _ => false) fun k _ => ?_ : _ = _), XL_false] at h2
  · cases h2
  · cases ek : lots[k]? with
    | none => exact XL_false
    | some l => exact h1 l (List.mem_of_getElem? ek)
end KM
/-! rules that the layer lacks -/
namespace KR
open PySem PySem.Spec PyProof.Rows L2
/-! ### for over a list or a tuple -/
def iSeq (K : PySem.W.Frag) (tl : TE) : TI := fun σ H R => tl σ H fun x H1 => ∃ a, x = .ref a ∧ ((∃ xs, SqL K H1 a xs ∧ R (Itl K a) H1) ∨ ∃ xs, SqT K H1 a xs ∧ R (Itt K a) H1)
theorem pi_seq {X : Cx} {tg l : Expr} {tl : TE} (hl : PE X l tl) : PI X tg l (iSeq X.K tl) := by
  refine ⟨fun pins s σ H R I h => ?_⟩
  refine thn (hl.run pins s σ H _ I h) fun v s1 ⟨x, H1, I1, r1, q1⟩ => ?_
  obtain ⟨a, e, q1⟩ := q1
  subst e
  cases r1
  rcases q1 with ⟨xs, hq, q⟩ | ⟨xs, hq, q⟩
  · obtain ⟨its, rv, p, hz⟩ := I1.list hq
    refine wpAny_pyIter_list p.isList ?_
    refine ⟨s1.heap.objs.size, [s1.heap.objs.size], _, _, H1, rfl, I1.kept (t' := s1.toks) fun b o e => Heap.get?_push_of_some _ e, turn_list a _, ⟨_, Heap.get?_push_size _ rfl, rfl, rfl⟩, fun b hb => ?_, q⟩
    have e : b = s1.heap.objs.size := by simpa using hb
    subst e
    exact I1.fpOk (Nat.le_refl _) (I1.hok.fresh (Nat.le_refl _))
  · obtain ⟨its, rv, p, hz⟩ := I1.tuple hq
    refine wpAny_pyIter_tuple (show s1.heap.IsTuple a its.toArray from p) ?_
    refine ⟨s1.heap.objs.size, [s1.heap.objs.size], _, _, H1, rfl, I1.kept (t' := s1.toks) fun b o e => Heap.get?_push_of_some _ e, turn_tuple a _, ⟨_, Heap.get?_push_size _ rfl, rfl, rfl⟩, fun b hb => ?_, q⟩
    have e : b = s1.heap.objs.size := by simpa using hb
    subst e
    exact I1.fpOk (Nat.le_refl _) (I1.hok.fresh (Nat.le_refl _))
/-! ### a call by keywords alone -/
section
variable {X : Cx} {CX : CXT} {k : Nat} {f : Addr} {fd : FuncData} {ps ks : List Str} {sp : Sp} {E : XK} {x : Str} {p pos : Pos} {kws : List Keyword} {tk : TA} {g : List Value → List Value → List Value} {gV : List V → List V → List V}
theorem pe_callN0 (F : FnOk X.prog X.w X.K X.mg X.base CX k f fd ps sp) (hr : Room k X.A) (hg : Gl X x) (hm : X.mg x = some (.ref f)) (hk : PySem.W.keepIn X.K (.ref f) = true) (hb : KBn X.K fd ps 0 ks g gV) (hx : Passes CX X E)
    (hkw : PK X kws tk) (hall : (backToKw pos (keywordEach kws X.env)).all (·.1.isSome) = true := by rfl) (hks : (backToKw pos (keywordEach kws X.env)).filterMap (·.1) = ks := by rfl)
    (hdb : (x == ("__debug__" : Str)) = false := by decide) (hpl : ((backTo pos (starEach [] X.env)).any (·.1) || (backToKw pos (keywordEach kws X.env)).any (·.1.isNone)) = false := by rfl) :
    PE X (.Call (.Name x p) [] kws pos) (tCallN 0 ks.length sp gV E tNil tk) := by
  refine ⟨fun pins s σ H Q I h => ?_⟩
  refine wpAny_Call_Name_kw (ld_glob I hg hm ?_ hdb)
  refine PySem.W.callWith_KW0 (h₀ := X.base) I.ok.mod.kin hk hall ?_ hpl
  refine thn (hkw.run pos pins s σ H _ I h) fun ws s2 ⟨zs, H2, I2, rz, l1, l2, q2⟩ => ⟨I2.kIn, ?_⟩
  rw [hks]
  exact run_fnN (us := []) (vs := []) F hr hb hx I2 .nil rz rfl l2 q2
end
/-- how keywords alone bind -/
theorem fun_kb {K : PySem.W.Frag} {x qual : Str} {st : Stmt} {f : Addr} {fd : FuncData} {ps ks : List Str} {g : List Value → List Value} {gV : List V → List V} (F : Fun K x qual st f fd)
    (h : ∀ (kV doc pm : Value) (an : Option Addr) (cdv ct : Value) (ws : List Value), ws.length = ks.length → bindArgs (PySem.W.fnOf x qual (defArgs st) (defBody st) (defScope st) .none kV doc pm an cdv ct) ⟨[], ks.zip ws⟩ = pure (ps.zip (g ws)))
    (hr : ∀ {zs : List V} {ws : List Value}, Vals zs ws → Vals (gV zs) (g ws)) : KBn K fd ps 0 ks (fun _ ws => g ws) (fun _ zs => gV zs) := by
  obtain ⟨oc, od, kV, doc, pm, an, cdv, ct, osl, rfl, lk, hcd⟩ := F.ex
  refine ⟨fun s us ws X l1 l2 => ?_, fun _ r2 => hr r2⟩
  have e : us = [] := List.eq_nil_of_length_eq_zero l1
  subst e
  exact .of_eq (h kV doc pm an cdv ct ws l2)
/-! ### s[::-1] of a text -/
def revS (z : Str) : Str := ⟨z.cps.toList.reverse.toArray⟩
theorem all_at {α : Type} (xs : Array α) : (List.range xs.size).filterMap (xs[·]?) = xs.toList := PySem.W.krv_all xs
theorem rev_made {z : Str} {t u : Tok} : Txt.sliceBy z none none (-1, u) = revS z := by
  unfold Txt.sliceBy
  rw [if_neg (by
    show ¬ (((-1 : Int) == 1) && _) = true
    rw [show ((-1 : Int) == 1) = false from rfl, Bool.false_and]
    exact Bool.false_ne_true)]
  unfold slicePicked revS
  have e : Builtin.Str.strSliceIndices none none (-1) z.length = (List.range z.length).reverse := by
    unfold Builtin.Str.strSliceIndices
    have h : sliceRange ((z.length : Int) - 1) (-1) (-1) = (List.range z.length).reverse := by
      rw [PySem.W.krv_sliceRange, PySem.W.krv_range]
    simpa using h
  show (⟨((Builtin.Str.strSliceIndices none none (-1) z.length).filterMap (z.cps[·]?)).toArray⟩ : Str) = _
  rw [e, List.filterMap_reverse]
  show (⟨((List.range z.cps.size).filterMap (z.cps[·]?)).reverse.toArray⟩ : Str) = _
  rw [all_at]
def tRevS (te : TE) : TE := fun σ H Q => te σ H fun x H1 => ∃ z : Str, x = .str z ∧ z.length ≤ sizeLine ∧ Q (.str (revS z)) H1
theorem revS_len (z : Str) : (revS z).length = z.length := by
  show z.cps.toList.reverse.toArray.size = z.cps.size
  simp
theorem pe_revS {X : Cx} {e : Expr} {te : TE} {k : Nat} {p1 p2 p3 pos : Pos} (he : PE X e te) : PE X (.Subscript e (.Slice none none (some (.UnaryOp .USub (.Constant (.int 1) k p1) p2)) p3) pos) (tRevS te) := by
  refine ⟨fun pins s σ H Q I h => ?_⟩
  refine Subscript_ (thn (he.run pins s σ H _ I h) fun v s1 ⟨x, H1, I1, r1, q1⟩ => ?_)
  obtain ⟨z, ex, hz, q⟩ := q1
  subst ex
  obtain ⟨t, rfl⟩ := r1
  have hst : PO X (some (.UnaryOp .USub (.Constant (.int 1) k p1) p2)) (tPart (tUn (rU fun i => .int (-i)) (tC (.int 1)))) := po_some (pe_un un_neg pe_int)
  refine wpAny_Slice (thn (po_none.run pins s1 σ H1 (fun o H2 => o = none ∧ H2 = H1) I1 ⟨rfl, rfl⟩) fun vl s2 ⟨l, H2, I2, pl, el, e2⟩ => ?_)
  subst el e2
  refine thn (po_none.run pins s2 σ H2 (fun o H3 => o = none ∧ H3 = H2) I2 ⟨rfl, rfl⟩) fun vu s3 ⟨u, H3, I3, pu, eu, e3⟩ => ?_
  subst eu e3
  refine thn (hst.run pins s3 σ H3 (fun o H4 => o = some (-1) ∧ H4 = H3) I3 ⟨1, rfl, -1, rfl, rfl, rfl⟩) fun vs s4 ⟨o, H4, I4, ps, eo, e4⟩ => ?_
  subst eo e4
  have I5 : Inv X pins σ H4 { s4 with heap := s4.heap.push { cls := .type "slice", data := .fields #[vl, vu, vs] } } := I4.kept (t' := s4.toks) fun b ob q => Heap.get?_push_of_some _ q
  obtain ⟨tk, rfl⟩ : ∃ tk, vs = .int (-1) tk := by
    cases ps with
    | int i t => exact ⟨t, rfl⟩
  cases pl
  cases pu
  show wpAny (model X.prog X.w) X.A (subscriptTail e (.Slice none none (some (.UnaryOp .USub (.Constant (.int 1) k p1) p2)) p3) (.str z t) (.ref s4.heap.objs.size)) (EP X pins σ Q) X.xe { s4 with heap := s4.heap.push { cls := .type "slice", data := .fields #[.none, .none, .int (-1) tk] } }
  refine tail_of_ItemOn ⟨"str", _, F.slot_str_getitem.lookup, typeIs_str _ _ _, wpAny_getItem_str_slice (l := none) (u := none) (st := some (-1, tk)) ⟨_, Heap.get?_push_size _ rfl, rfl, rfl⟩ rfl
    (post_val_or_str ⟨Nat.le_trans (Txt.sliceBy_le z none none (-1, tk) (show (-1 : Int) ≠ 0 by decide)) hz, fun t' c => ?_⟩)⟩ (by with_unfolding_all rfl) (by intro _; cases e <;> rfl)
  have e1 := rev_made (z := z) (t := t) (u := tk)
  unfold Txt.sliceBy at e1
  show EP X pins σ Q (.str (if _ then z else _) t') _
  rw [e1]
  exact ⟨.str (revS z), H4, I5.kept (t' := c) fun b ob q => q, ⟨t', rfl⟩, q⟩
/-! ### enumerate(text) -/
/-- the signs of a text, each in a new pair -/
def Itx (x : Str) : It := ⟨fun i _ => i < x.cps.size, fun i H v H' => ∃ T c, v = .ref T ∧ H T = none ∧ H' = upd H T (.tup [.int (i : Nat), .str ⟨#[c]⟩]) ∧ x.cps[i]? = some c, fun i _ => i = x.cps.size⟩
theorem turn_enumS {P : Program} {w : World} {K : PySem.W.Frag} {elts : List Expr} {kk : Nat} {tpos : Pos} (e it : Addr) (x : Str) (t : Tok) :
    Turn P w K (.Tuple elts kk tpos) (Itx x) [e, it] e (fun i h => (∃ old, IsEnum h e it ((i : Nat) : Int) old) ∧ h.IsStrIter it (strIterType x) x t i ∧ e ≠ it) where
  mem := by simp
  obj := fun i h st b hb => by
    obtain ⟨⟨old, he⟩, ⟨o, ho, hc, hd⟩, _⟩ := st
    have e' : b = e ∨ b = it := by simpa using hb
    rcases e' with z | z
    · rw [z]; exact ⟨_, he, fun v q => nomatch q⟩
    · rw [z]; exact ⟨o, ho, fun v q => by rw [hd] at q; cases q⟩
  keep := fun i h h' st k => let ⟨⟨old, he⟩, hi, hne⟩ := st; ⟨⟨old, k e (by simp) _ he⟩, let ⟨o, ho, r⟩ := hi; ⟨o, k it (by simp) o ho, r⟩, hne⟩
  item := by
    intro X hP hw hK hc i pins s σ H E I hf st hg
    subst hP hw hK
    obtain ⟨⟨old, he⟩, hit, hne⟩ := st
    have hg : i < x.cps.size := hg
    have hel : e < s.heap.objs.size := Heap.lt_size he
    have hil : it < s.heap.objs.size := by obtain ⟨_, q, _⟩ := hit; exact Heap.lt_size q
    have hh : X.A.in1.handled = none := by simp [I.ok.hd hc]
    refine wpAny_pyNext_enum_itemD (Draws.text hh it x t) he hit hg hne (fun z => hne (by simpa using z)) fun v h' tk hP ho hit' hT hsz hk => ?_
    obtain ⟨c, u, hcx, rfl⟩ := hP
    refine ⟨_, rfl, wpAny_letOwnedTupleGo_enum (s := { s with heap := h', toks := tk + 1 }) ho fun h'' he' sb => ?_⟩
    have hT2 : h''.get? s.heap.objs.size = some { cls := .type "tuple", data := .seq #[.int i tk, .str ⟨#[c]⟩ u] } := (sb.2 _ (Nat.ne_of_gt hel)).trans hT
    have new : ObjOk X.prog X.w (upd H s.heap.objs.size (.tup [.int (i : Nat), .str ⟨#[c]⟩])) h'' s.heap.objs.size (.tup [.int (i : Nat), .str ⟨#[c]⟩]) :=
      ⟨by show 2 ≤ sizeLine; decide, [.int i tk, .str ⟨#[c]⟩ u], .cons ⟨_, rfl⟩ (.cons ⟨_, rfl⟩ .nil), ⟨_, hT2, rfl, _, rfl⟩⟩
    have I1 : L2.Inv X pins σ (upd H s.heap.objs.size (.tup [.int (i : Nat), .str ⟨#[c]⟩])) { s with heap := h'', toks := tk + 1 } :=
      I.turnedNew (ch := [e, it]) (fun b ob hb q => (sb.2 b (fun z => hb (by simp [z]))).trans (hk b ob (fun z => hb (by simp [z])) (fun z => hb (by simp [z])) q)) hf (Nat.le_refl _) new
    refine ⟨.ref s.heap.objs.size, _, I1, rfl, ⟨_, c, rfl, I.hok.fresh (Nat.le_refl _), rfl, hcx⟩, ⟨⟨.str ⟨#[c]⟩ u, ?_⟩, let ⟨o, ho, r⟩ := hit'; ⟨o, (sb.2 it (Ne.symm hne)).trans ho, r⟩, hne⟩, fun b hb => ?_⟩
    · have e1 : ((i + 1 : Nat) : Int) = (i : Int) + 1 := by omega
      rw [e1]; exact he'
    · have hb' : b < s.heap.objs.size := by
        have e' : b = e ∨ b = it := by simpa using hb
        rcases e' with z | z
        · rw [z]; exact hel
        · rw [z]; exact hil
      rw [upd_ne (Nat.ne_of_lt hb')]
      exact (hf b hb).1
  done := by
    intro X hP hw hK hc i pins s σ H E I hf st hg
    subst hP hw hK
    obtain ⟨⟨old, he⟩, hit, hne⟩ := st
    have hg : i = x.cps.size := hg
    subst hg
    obtain ⟨f0, f1, f2, f3, f4, f5⟩ := hf it (by simp)
    have hh : X.A.in1.handled = none := by simp [I.ok.hd hc]
    exact wpAny_pyNext_enum_endD (Draws.text hh it x t) he hit fun h' eb => ⟨rfl, I.turned (t' := s.toks) (fun b o hb q => eb b o hb q) f0 f1 f3 f4 f5⟩
  self := fun A i s Q E st h => let ⟨⟨_, he⟩, _⟩ := st; wpAny_pyIter_enum he h
def iEnumS (ta : TA) : TI := fun σ H R => ta σ H fun vs H1 => ∃ x : Str, vs = [.str x] ∧ R (Itx x) H1
theorem pi_enumS {X : Cx} {e : Expr} {ta : TA} {p pos tpos : Pos} {elts : List Expr} {kk : Nat} (hg : Gl X "enumerate") (hm : X.mg "enumerate" = none) (ha : PA X [e] ta) (hs : starEach [e] X.env = [(false, eval e X.env)] := by rfl) :
    PI X (.Tuple elts kk tpos) (.Call (.Name "enumerate" p) [e] [] pos) (iEnumS ta) := by
  refine ⟨fun pins s σ H R I h => ?_⟩
  refine Call_ (ld_blt I hg hm boot_enumerate (PyProof.Rows.callWith_type1 (thn (ha.run pos pins s σ H _ I h) fun us s1 ⟨vs, H1, I1, r1, q1⟩ => ?_) hs rfl))
  obtain ⟨x, ex, q⟩ := q1
  subst ex
  cases r1 with
  | cons r rr =>
    cases rr
    obtain ⟨t, rfl⟩ := r
    refine call_enumerate_str fun h' he hit hsz hk => wpAny_pyIter_enum he ?_
    have I2 : L2.Inv X pins σ H1 { s1 with heap := h' } := I1.kept (t' := s1.toks) hk
    refine ⟨s1.heap.objs.size + 1, [s1.heap.objs.size + 1, s1.heap.objs.size], _, _, H1, rfl, I2, turn_enumS (s1.heap.objs.size + 1) s1.heap.objs.size x t, ⟨⟨.none, he⟩, hit, Nat.succ_ne_self _⟩, fun b hb => ?_, q⟩
    have e' : b = s1.heap.objs.size + 1 ∨ b = s1.heap.objs.size := by simpa using hb
    have hle : s1.heap.objs.size ≤ b := by
      rcases e' with z | z
      · rw [z]; exact Nat.le_add_right _ _
      · rw [z]; exact Nat.le_refl _
    exact I1.fpOk hle (I1.hok.fresh hle)
theorem walk_enumS {x : Str} : Walk (Itx x) x.cps.size (fun _ => True) (YPair (fun i => some (.int (i : Nat))) (fun i => (x.cps[i]?).map fun c => V.str ⟨#[c]⟩)) := by
  refine ⟨fun _ _ hi _ => hi, fun _ _ => rfl, fun i H v H' _ _ y => ?_⟩
  obtain ⟨T, c, h1, h2, h3, h4⟩ := y
  exact ⟨T, .int (i : Nat), .str ⟨#[c]⟩, h1, h2, h3, rfl, by
    show Option.map (fun c => V.str ⟨#[c]⟩) x.cps[i]? = _
    rw [h4]
    rfl⟩
/-! ### set(tuple of ints) -/
def rSetT (K : PySem.W.Frag) (w : World) : List V → Hp → VK → Prop := fun xs H Q => ∃ (a : Addr) (ns : List Int), xs = [.ref a] ∧ SqT K H a (ns.map V.int) ∧ ns.length + 1 < scanBound ∧
  ∀ p c, H p = none → c ≤ ns.length → Q (.ref p) (upd H p (SetO w p (fun j => decide (j ∈ ns)) c))
theorem cr_setT {X : Cx} (hc : X.calm = true) : CallR X (.type "set") (rSetT X.K X.w) := by
  intro pins s σ H xs us Q I r h
  obtain ⟨a, ns, rfl, ht, hb, q⟩ := h
  rw [Vals.ref1 r]
  obtain ⟨its, rv, p, hz⟩ := I.tuple ht
  refine call_set_tupI ns (I.ok.hd hc) p (ints_of_vals rv) hb fun h' tk c R hcl hk => ?_
  exact ⟨.ref s.heap.objs.size, _, I.laid (t' := tk) hk (Nat.le_refl _) (setO_new R), rfl, q _ c (I.hok.fresh (Nat.le_refl _)) hcl⟩
end KR
namespace KR
open PySem PySem.Spec PyProof.Rows L2
/-! ### int(text of 0 and 1, 2) -/
section
open PySem.NumText PySem.Calls
def Bin (l : List Nat) : Prop := ∀ c ∈ l, c = 48 ∨ c = 49
def num2 (l : List Nat) : Nat := l.foldl (fun a c => a * 2 + (c - 48)) 0
theorem Bin.hex {l : List Nat} (h : Bin l) : ∀ c ∈ l, Hx.IsHex c := fun c hc => by
  rcases h c hc with e | e <;> rw [e] <;> exact .inl ⟨by decide, by decide⟩
theorem step2 (ds : Array Nat) (b : Bool) (c : Nat) (h : c = 48 ∨ c = 49) : PySem.NumText.step 2 (ds, b) c = some (ds.push (c - 48), true) := by
  rcases h with rfl | rfl <;> rfl
theorem fold2 : ∀ (l : List Nat) (ds : Array Nat), Bin l → ∃ es : Array Nat, l.foldlM (PySem.NumText.step 2) (ds, true) = some (es, true) ∧ es.foldl (fun a d => a * 2 + d) 0 = l.foldl (fun a c => a * 2 + (c - 48)) (ds.foldl (fun a d => a * 2 + d) 0)
  | [], ds, _ => ⟨ds, rfl, rfl⟩
  | c :: l, ds, h => by
    obtain ⟨es, h1, h2⟩ := fold2 l (ds.push (c - 48)) fun d hd => h d (List.mem_cons_of_mem _ hd)
    refine ⟨es, ?_, ?_⟩
    · rw [List.foldlM_cons, step2 ds true c (h c List.mem_cons_self)]
      exact h1
    · rw [h2, List.foldl_cons]
      congr 1
      simp
theorem digits2 {l : List Nat} (h : Bin l) (hne : l ≠ []) : ∃ es : Array Nat, digits? 2 l = some es ∧ es.foldl (fun a d => a * 2 + d) 0 = num2 l := by
  cases l with
  | nil => exact absurd rfl hne
  | cons c l =>
    obtain ⟨es, h1, h2⟩ := fold2 l ((#[] : Array Nat).push (c - 48)) fun d hd => h d (List.mem_cons_of_mem _ hd)
    refine ⟨es, ?_, ?_⟩
    · unfold digits?
      rw [List.foldlM_cons, step2 #[] false c (h c List.mem_cons_self)]
      show (l.foldlM (PySem.NumText.step 2) ((#[] : Array Nat).push (c - 48), true)).bind _ = _
      rw [h1]
      rfl
    · rw [h2]
      show _ = l.foldl _ (0 * 2 + (c - 48))
      congr 1
theorem based2 {l : List Nat} (h : Bin l) : based 2 l = (2, false, l) := by
  match l, h with
  | [], _ => rfl
  | [a], h => rcases h a List.mem_cons_self with e | e <;> rw [e] <;> rfl
  | a :: c :: r, h =>
    have h2 := h c (List.mem_cons_of_mem _ List.mem_cons_self)
    rcases h a List.mem_cons_self with e | e <;> rcases h2 with e2 | e2 <;> rw [e, e2] <;> rfl
theorem read2 {l : List Nat} (h : Bin l) (hne : l ≠ []) : (int_private% "readNumeral") 0 2 l = (int_private% "Numeral.value") ((num2 l : Nat) : Int) := by
  have hr : Bin l.reverse := fun c hc => h c (List.mem_reverse.mp hc)
  obtain ⟨es, e1, e2⟩ := digits2 h hne
  rw [readNumeral_eq 0 2 l, Hx.dropB h.hex, Hx.signH h.hex]
  show judge 0 false (based 2 l).1 (based 2 l).2.1 (digits? (based 2 l).1 (((based 2 l).2.2.reverse.dropWhile blank).reverse)) = _
  rw [based2 h]
  show judge 0 false 2 false (digits? 2 ((l.reverse.dropWhile blank).reverse)) = _
  rw [Hx.dropB hr.hex, List.reverse_reverse, e1, ← e2]
  rfl
theorem gives2 {x : PySem.Str} {u t : Tok} (hl : x.length ≤ 640) (h : Bin x.cps.toList) (hne : x.cps.toList ≠ []) :
    Gives (Builtin.«int.__new__» ⟨[.type "int", .str x u, .int 2 t], []⟩) (.int ((num2 x.cps.toList : Nat) : Int)) := by
  refine .of_wp fun M A E s Q hQ => ?_
  obtain ⟨hp, g, d, tk, os⟩ := s
  have k1 := F.conv_sub_int
  have k2 := F.madeHere_int
  have k3 : typeOf (.str x u) = pure (.type "str") := rfl
  obtain ⟨e1, e2⟩ := Hx.seen_hex h.hex
  have hk : Hx.Hid ((numSeenOf x).length ≤ 640 ∧ (int_private% "readNumeral") 0 2 (numSeenOf x) = (int_private% "Numeral.value") ((num2 x.cps.toList : Nat) : Int) ∧ ((numSeenOf x).length == (numTextOf x).length) = true) := by
    refine ⟨?_, ?_, ?_⟩
    · rw [e2, Array.length_toList]; exact hl
    · rw [e2]; exact read2 h hne
    · rw [e1, e2]; exact beq_self_eq_true _
  clear e1 e2 hl hne h
  repeat (any_goals (first
    | assumption
    | ((with_reducible show wpAny _ _ ((int_private% "intFromText") _ _ _) _ _ _); refine Hx.wp_textB hk.out.1 hk.out.2.1 hk.out.2.2 ?_)
    | wp_step))
  all_goals first | exact ⟨_, rfl, hQ⟩ | skip
def rInt2 : List V → Hp → VK → Prop := fun xs H Q => ∃ z : Str, xs = [.str z, .int 2] ∧ z.cps.toList ≠ [] ∧ z.length ≤ 640 ∧ Bin z.cps.toList ∧ Q (.int ((num2 z.cps.toList : Nat) : Int)) H
theorem call_int2 {X : Cx} : CallR X (.type "int") rInt2 := by
  intro pins s σ H xs us Q I r h
  obtain ⟨z, rfl, hne, hl, hx, q⟩ := h
  obtain ⟨u, w', rfl, ⟨t1, rfl⟩, ⟨t2, rfl⟩⟩ := vals2 r
  exact callType_new F.called_int F.newNe_int (Hx.typeCall_int_2 _ _) (Hx.newCall_int_2 _ _) (fun obj => F.initArgs_range_2 obj _ _) F.entry_int_new (gives2 hl hx hne).meets
    (show (Made.int ((num2 z.cps.toList : Nat) : Int)).post _ s from ⟨rfl, ⟨.int ((num2 z.cps.toList : Nat) : Int), H, I.tok _, ⟨_, rfl⟩, q⟩⟩)
end
end KR
namespace KR
open PySem PySem.Spec PyProof.Rows L2
/-! ### {n:b} -/
def bText (n : Nat) : Str := ⟨((Nat.toDigits 2 n).map Char.toNat).toArray⟩
theorem meets_b (n : Nat) (t : Tok) (hz : (Nat.toDigits 2 n).length ≤ 1000) : ∀ u, Meets (Builtin.«int.__format__» ⟨[.int (n : Int) t, .str ⟨#[98]⟩ u], []⟩) (fun _ R s => ∀ t' k, R (.ok (.ret (.str (bText n) t'))) { s with toks := k }) := by
  intro u
  refine .of_wp fun prog w A R s h => ?_
  have c1 : ((⟨#[98]⟩ : Str).length == 0) = false := rfl
  have c2 : (((⟨#[98]⟩ : Str).cps.toList.drop 1).any (fun x => decide (x ≥ 128)) || decide ((⟨#[98]⟩ : Str).cps.getD 0 0 ≥ 128) && !([60, 62, 61, 94] : List Nat).contains ((⟨#[98]⟩ : Str).cps.getD 1 0)) = false := by decide
  have c3 : (Value.str ⟨#[98]⟩ u == Value.none) = false := rfl
  unfold Builtin.«int.__format__»
  simp only [selfAndOne, noKeywords, Builtin.Int.intOfSelf, asInt?, asStr?, List.isEmpty_nil, pure_bind, if_true, c1, c2, c3, Bool.false_eq_true, if_false]
  refine wpAny_bind (wpAny_typeNameOf (T := "str") (typeIs_str _ _ _) (by decide) fun _ => ?_)
  refine wpAny_bind (wpAny_typeNameOfCut_int ?_)
  have hp : ∃ f : Builtin.Float.FormatSpec, Builtin.Float.parseFormatSpec [98] "int" 62 = .ok f ∧ f.type = some 98 ∧ f.precision = none ∧ f.noNeg0 = false ∧ f.alt = false ∧ f.width = none ∧ f.grouping = none ∧ f.sign = none ∧ f.fill = 32 ∧ f.align = 62 := ⟨_, rfl, rfl, rfl, rfl, rfl, rfl, rfl, rfl, rfl, rfl⟩
  obtain ⟨f, hp, f1, f2, f3, f4, f5, f6, f7, f8, f9⟩ := hp
  simp only [hp, f1, Option.getD_some]
  rw [if_pos (by decide)]
  show wpAny _ _ (if f.precision.isSome = true then _ else _) _ _ _
  rw [f2, if_neg (by decide)]
  show wpAny _ _ (if f.noNeg0 = true then _ else _) _ _ _
  rw [f3, if_neg Bool.false_ne_true]
  show wpAny _ _ (if (98 : Nat) == 99 then _ else _) _ _ _
  rw [if_neg (by decide)]
  show wpAny _ _ (if f.width.getD 0 > 100000 then _ else _) _ _ _
  rw [f5, if_neg (by decide), f4]
  obtain ⟨fill, align, sign, noNeg0, alt, width, grouping, precision, type⟩ := f
  simp only at f1 f2 f3 f4 f5 f6 f7 f8 f9
  subst f1 f2 f3 f4 f5 f6 f7 f8 f9
  have e1 : decide ((n : Int) < 0) = false := decide_eq_false (by omega)
  have e2 : (Nat.toDigits 2 (n : Int).natAbs).map (fun c => (if ((98 : Nat) == 88) = true then c.toUpper else c).toNat) = (Nat.toDigits 2 n).map Char.toNat := rfl
  rw [e1, e2]
  have hb : bText n = ⟨((Nat.toDigits 2 n).map Char.toNat).toArray⟩ := rfl
  have hz2 : ((Nat.toDigits 2 n).map Char.toNat).length ≤ 1000 := by rw [List.length_map]; exact hz
  have hne : (Nat.toDigits 2 n).map Char.toNat ≠ [] := fun e => by
    have := List.map_eq_nil_iff.mp e
    exact absurd this Nat.toDigits_ne_nil
  generalize (Nat.toDigits 2 n).map Char.toNat = ds at hb hz2 hne
  obtain ⟨d, r, rfl⟩ : ∃ d r, ds = d :: r := by
    cases ds with
    | nil => exact absurd rfl hne
    | cons d r => exact ⟨d, r, rfl⟩
  show wpAny _ _ (retStr ⟨(List.replicate ((-1 : Int) - ((([] : List Nat).length : Int) + (([] : List Nat).length : Int) + (([] : List Nat).length : Int)) - ((List.replicate ((0 : Int).toNat - (d :: r).length) 48 ++ d :: r).length : Int)).toNat 32 ++ [] ++ [] ++ List.replicate 0 32 ++ (List.replicate ((0 : Int).toNat - (d :: r).length) 48 ++ d :: r) ++ [] ++ List.replicate 0 32).toArray⟩) _ _ _
  have hpad : ((-1 : Int) - ((([] : List Nat).length : Int) + (([] : List Nat).length : Int) + (([] : List Nat).length : Int)) - ((List.replicate ((0 : Int).toNat - (d :: r).length) 48 ++ d :: r).length : Int)).toNat = 0 := by
    simp only [List.length_nil]
    omega
  have e0 : (0 : Int).toNat - (d :: r).length = 0 := by simp
  rw [hpad, e0]
  show wpAny _ _ (retStr ⟨(d :: r ++ [] ++ []).toArray⟩) _ _ _
  rw [List.append_nil, List.append_nil, ← hb]
  unfold retStr
  refine wpAny_bind (wpAny_mkStr (wpAny_pure ⟨_, rfl, h _ _⟩) ?_)
  rw [hb]
  show (d :: r).toArray.size ≤ sizeLine
  rw [List.size_toArray]
  exact Nat.le_of_lt (small1000 hz2)
/-- f'{n:b}', n from 0 on -/
def tFmtB (te : TE) : TE := fun σ H Q => te σ H fun x H1 => ∃ n : Nat, x = .int (n : Int) ∧ (Nat.toDigits 2 n).length ≤ 1000 ∧ Q (.str (bText n)) H1
theorem pe_fmtB {X : Cx} {e : Expr} {te : TE} {j : Nat} {p1 p2 pos pos2 : Pos} (he : PE X e te) : PE X (.JoinedStr [.FormattedValue e (-1) (some (.JoinedStr [.Constant (.str ⟨#[98]⟩) j p1] p2)) pos] pos2) (tFmtB te) := by
  refine ⟨fun pins s σ H Q I h => ?_⟩
  refine wpAny_JoinedStr_one (wpAny_FormattedValue_spec (thn (he.run pins s σ H _ I h) fun v s1 ⟨x, H1, I1, r1, n, ex, hz, q⟩ => ?_))
  subst ex
  obtain ⟨t, rfl⟩ := r1
  refine wpAny_JoinedStr_one (thn (pe_str.run pins s1 σ H1 (fun y H2 => y = .str ⟨#[98]⟩ ∧ H2 = H1) I1 ⟨rfl, rfl⟩) fun w' s2 ⟨y, H2, I2, r2, ey, eh⟩ => ?_)
  subst ey eh
  obtain ⟨t2, rfl⟩ := r2
  exact ⟨⟨#[98]⟩, t2, rfl, PySem.W.KXf.field_int rfl rfl (by decide) (meets_b n t hz) fun t' k => ⟨.str (bText n), _, I2.tok _, ⟨t', rfl⟩, q⟩⟩
end KR
namespace KS
open PySem PySem.Spec PyProof.Rows L2 KR KM Evl
/-! ### the text -/
def topS (i : Nat) : Stmt := PySem.Challenge.pw_otherhand_k01_sums_by_two_or_what_bars_t.main.body.getD i (.Pass ⟨0, 0, 0, 0⟩)
/-! ### a list or a tuple of ints; of such -/
def Sq (K : PySem.W.Frag) (H : Hp) (a : Addr) (xs : List V) : Prop := SqL K H a xs ∨ SqT K H a xs
theorem Sq.up {K : PySem.W.Frag} {H H' : Hp} {a : Addr} {xs : List V} (e : Ex H H') (h : Sq K H a xs) : Sq K H' a xs := by
  rcases h with h | h
  · exact .inl (ex_l e h)
  · exact .inr (ex_t e h)
def LotR (K : PySem.W.Frag) (H : Hp) (v : V) (l : List Int) : Prop := ∃ a, v = .ref a ∧ Sq K H a (l.map V.int)
theorem LotR.up {K : PySem.W.Frag} {H H' : Hp} {v : V} {l : List Int} (e : Ex H H') (h : LotR K H v l) : LotR K H' v l := let ⟨a, x, y⟩ := h; ⟨a, x, y.up e⟩
abbrev LotsP (K : PySem.W.Frag) (H : Hp) (xs : List V) (ls : List (List Int)) : Prop := Paired (LotR K H) xs ls
theorem lots_up {K : PySem.W.Frag} {H H' : Hp} {xs : List V} {ls : List (List Int)} (e : Ex H H') (h : LotsP K H xs ls) : LotsP K H' xs ls := L2.Paired.mapP h fun _ _ r => r.up e
def LotsR (K : PySem.W.Frag) (H : Hp) (v : V) (ls : List (List Int)) : Prop := ∃ a xs, v = .ref a ∧ Sq K H a xs ∧ LotsP K H xs ls
theorem LotsR.up {K : PySem.W.Frag} {H H' : Hp} {v : V} {ls : List (List Int)} (e : Ex H H') (h : LotsR K H v ls) : LotsR K H' v ls := let ⟨a, xs, x, y, z⟩ := h; ⟨a, xs, x, y.up e, lots_up e z⟩
theorem pget {α β : Type} {F : α → β → Prop} : ∀ {xs : List α} {ys : List β} {i : Nat} {x : α}, Paired F xs ys → xs[i]? = some x → ∃ y, ys[i]? = some y ∧ F x y
  | _, _, _, _, .nil, e => by simp at e
  | _, _, 0, _, .cons r _, e => by simp at e; subst e; exact ⟨_, rfl, r⟩
  | _, _, i + 1, x, .cons _ t, e => by
    obtain ⟨u, h1, h2⟩ := pget (i := i) (x := x) t (by simpa using e)
    exact ⟨u, by simpa using h1, h2⟩
def RetT (xs : List Int) (H : Hp) (Q : VK) : Prop := ∀ p H2, H p = none → Ex H H2 → H2 p = some (.tup (xs.map V.int)) → Q (.ref p) H2
def RetI (xs : List Int) (H : Hp) (Q : VK) : Prop := ∀ p H2, H p = none → Ex H H2 → H2 p = some (.lst (xs.map V.int)) → Q (.ref p) H2
/-- for over a list or tuple, told by one word -/
theorem s_forSq {K : PySem.W.Frag} {σ : L2.St} {H0 H : Hp} {D : Ends} {tu : TS} {g : TG} {a : Addr} {xs : List V} {tl : TE} (h : Ev tl σ H (.ref a)) (hx : Sq K H0 a xs) (e0 : Ex H0 H) (Pv : Nat → L2.St → Hp → Prop) (h0 : ∀ H1, Ex H H1 → Pv 0 σ H1) (hl : ∀ i σ' H', i ≤ xs.length → Pv i σ' H' → Ex H0 H')
    (hs : ∀ i x σ' H', xs[i]? = some x → Pv i σ' H' → g x σ' H' fun σ2 H2 => tu { D with nx := Pv (i + 1), ct := Pv (i + 1), bk := D.nx } σ2 H2) (hd : ∀ σ' H', Pv xs.length σ' H' → D.nx σ' H') : tFor (iSeq K tl) g tu D σ H :=
  h H (Ex.refl H) _ fun H1 e => ⟨a, rfl, by
    rcases hx with hx | hx
    · exact .inl ⟨xs, ex_l (e0.trans e) hx, for_list Pv (h0 H1 e) (fun i σ' H' hi p => ex_l (hl i σ' H' hi p) hx) hs hd⟩
    · exact .inr ⟨xs, ex_t (e0.trans e) hx, for_tup Pv (h0 H1 e) (fun i σ' H' hi p => ex_t (hl i σ' H' hi p) hx) hs hd⟩⟩
/-! ### what the module's names hold -/
structure Bu (mg : Str → Option Value) : Prop where
  tuple : mg "tuple" = none
  sorted : mg "sorted" = none
  len : mg "len" = none
  int : mg "int" = none
  enumerate : mg "enumerate" = none
  range : mg "range" = none
  list : mg "list" = none
  set : mg "set" = none
  abs : mg "abs" = none
  isinstance : mg "isinstance" = none
/-! ### dicts: toggled, filled -/
def tog (kvs : List (Key × V)) (x : Int) : List (Key × V) := putK kvs (Sum.inl x) (.bl (!(match valV kvs (Sum.inl x : Key) with | some (.bl b) => b | _ => false)))
def togs (l : List Int) : List (Key × V) := l.foldl tog []
theorem len_putK (kvs : List (Key × V)) (k : Key) (v : V) : (putK kvs k v).length ≤ kvs.length + 1 := by
  unfold putK
  split
  · simp
  · simp
theorem len_tog (kvs : List (Key × V)) (x : Int) : (tog kvs x).length ≤ kvs.length + 1 := len_putK _ _ _
theorem togs_snoc (l : List Int) (x : Int) : togs (l ++ [x]) = tog (togs l) x := by
  unfold togs
  rw [List.foldl_append]
  rfl
theorem rev_ind {α : Type} {P : List α → Prop} (h0 : P []) (hs : ∀ l x, P l → P (l ++ [x])) : ∀ l, P l := by
  have key : ∀ r : List α, P r.reverse := by
    intro r
    induction r with
    | nil => exact h0
    | cons a r ih =>
      rw [List.reverse_cons]
      exact hs _ _ ih
  intro l
  have := key l.reverse
  rw [List.reverse_reverse] at this
  exact this
theorem len_togs : ∀ l : List Int, (togs l).length ≤ l.length := rev_ind (by simp [togs]) fun l x ih => by
  rw [togs_snoc, List.length_append, List.length_singleton]
  exact Nat.le_trans (len_tog _ _) (Nat.succ_le_succ ih)
theorem val_togs (x : Int) : ∀ l : List Int, valV (togs l) (Sum.inl x : Key) = if x ∈ l then some (.bl (decide (l.count x % 2 = 1))) else none := rev_ind (by simp [togs, valV]) fun l y ih => by
  rw [togs_snoc]
  unfold tog
  rw [valV_put]
  by_cases e : x = y
  · subst e
    rw [if_pos rfl, if_pos (by simp), ih]
    by_cases hx : x ∈ l
    · rw [if_pos hx, List.count_append]
      have : List.count x [x] = 1 := by simp
      rw [this]
      by_cases h : l.count x % 2 = 1
      · rw [decide_eq_true h, decide_eq_false (by omega)]
        rfl
      · rw [decide_eq_false h, decide_eq_true (by omega)]
        rfl
    · rw [if_neg hx, List.count_append, List.count_eq_zero.mpr hx]
      simp
  · have e' : ¬ ((Sum.inl x : Key) = Sum.inl y) := fun z => e (Sum.inl.inj z)
    rw [if_neg e', ih]
    have e2 : (x ∈ l ++ [y]) ↔ x ∈ l := by simp [e]
    have e3 : List.count x [y] = 0 := List.count_eq_zero.mpr (by simpa using e)
    by_cases hx : x ∈ l
    · rw [if_pos hx, if_pos (e2.mpr hx), List.count_append, e3, Nat.add_zero]
    · rw [if_neg hx, if_neg fun z => hx (e2.mp z)]
theorem keys_togs : ∀ l : List Int, ((togs l).map (·.1)).Nodup ∧ ∀ p ∈ togs l, ∃ x : Int, p.1 = Sum.inl x ∧ x ∈ l := rev_ind ⟨by simp [togs], fun p hp => by simp [togs] at hp⟩ fun l y ih => by
  rw [togs_snoc]
  unfold tog
  cases e : valV (togs l) (Sum.inl y : Key) with
  | none =>
    refine ⟨nd_putK _ ih.1 e, fun p hp => ?_⟩
    rw [putK_new _ e] at hp
    rcases List.mem_append.mp hp with h | h
    · obtain ⟨x, h1, h2⟩ := ih.2 p h
      exact ⟨x, h1, List.mem_append_left _ h2⟩
    · rw [List.mem_singleton.mp h]
      exact ⟨y, rfl, by simp⟩
  | some v =>
    have hp : ∀ w : V, ((putK (togs l) (Sum.inl y) w).map (·.1)) = (togs l).map (·.1) := fun w => by
      unfold putK
      rw [if_pos (by rw [valV_any, e]; rfl), List.map_map]
      refine List.map_congr_left fun p _ => ?_
      show (if p.1 = Sum.inl y then (p.1, w) else p).1 = p.1
      split <;> rfl
    refine ⟨by rw [hp]; exact ih.1, fun p hq => ?_⟩
    have : p.1 ∈ (togs l).map (·.1) := by
      rw [← hp]
      exact List.mem_map_of_mem hq
    obtain ⟨q, h1, h2⟩ := List.mem_map.mp this
    obtain ⟨x, h3, h4⟩ := ih.2 q h1
    exact ⟨x, by rw [← h2]; exact h3, List.mem_append_left _ h4⟩
theorem got_tog (l : List Int) (x : Int) : ∃ c, (valV (togs l) (Sum.inl x : Key)).getD (.bl false) = .bl c ∧ putK (togs l) (Sum.inl x : Key) (.bl (!c)) = togs (l ++ [x]) := by
  rw [togs_snoc]
  unfold tog
  rw [val_togs]
  by_cases h : x ∈ l
  · rw [if_pos h]
    exact ⟨_, rfl, rfl⟩
  · rw [if_neg h]
    exact ⟨false, rfl, rfl⟩
theorem val_at {κ : Type} [DecidableEq κ] {kvs : List (κ × V)} (nd : (kvs.map (·.1)).Nodup) {i : Nat} {k : κ} {v : V} (h : kvs[i]? = some (k, v)) : valV kvs k = some v := by
  induction kvs generalizing i with
  | nil => simp at h
  | cons p r ih =>
    have nd' : (p.1 :: r.map (·.1)).Nodup := nd
    obtain ⟨n1, n2⟩ := List.nodup_cons.mp nd'
    cases i with
    | zero =>
      have e : p = (k, v) := by simpa using h
      rw [e]
      exact valV_pos rfl
    | succ i =>
      have h' : r[i]? = some (k, v) := by simpa using h
      have hne : ¬ p.1 = k := fun z => n1 (by
        rw [z]
        exact List.mem_map.mpr ⟨(k, v), List.mem_of_getElem? h', rfl⟩)
      rw [valV_neg hne]
      exact ih n2 h'
theorem at_val {κ : Type} [DecidableEq κ] {kvs : List (κ × V)} {k : κ} {v : V} (h : valV kvs k = some v) : ∃ i : Nat, kvs[i]? = some (k, v) := by
  unfold valV at h
  cases e : kvs.find? fun kv => decide (kv.1 = k) with
  | none => rw [e] at h; cases h
  | some p =>
    rw [e] at h
    have h1 := List.find?_some e
    have h2 := List.mem_of_find?_eq_some e
    obtain ⟨i, hi⟩ := List.getElem?_of_mem h2
    refine ⟨i, hi.trans ?_⟩
    have e1 : p.1 = k := of_decide_eq_true h1
    have e2 : p.2 = v := Option.some.inj h
    rw [← e1, ← e2]
/-- which keys stand with True, by their places -/
def onI (kvs : List (Key × V)) (i : Nat) : Bool := match kvs[i]? with | some (_, .bl b) => b | _ => false
def keyI (kvs : List (Key × V)) (i : Nat) : Int := match kvs[i]? with | some (.inl x, _) => x | _ => 0
def oddK (kvs : List (Key × V)) : List Int := ((List.range kvs.length).filter (onI kvs)).map (keyI kvs)
theorem given_oddK (kvs : List (Key × V)) : given kvs.length (onI kvs) (fun i => V.int (keyI kvs i)) = (oddK kvs).map V.int := by
  unfold given oddK
  rw [List.map_map]
  rfl
theorem mem_oddK {l : List Int} {x : Int} : x ∈ oddK (togs l) ↔ l.count x % 2 = 1 := by
  obtain ⟨nd, ks⟩ := keys_togs l
  unfold oddK
  rw [List.mem_map]
  constructor
  · rintro ⟨i, hi, rfl⟩
    rw [List.mem_filter, List.mem_range] at hi
    obtain ⟨h1, h2⟩ := hi
    have e : (togs l)[i]? = some (togs l)[i] := List.getElem?_eq_getElem h1
    obtain ⟨y, hy, hm⟩ := ks _ (List.mem_of_getElem? e)
    have hv := val_at nd (k := (togs l)[i].1) (v := (togs l)[i].2) e
    have ek : keyI (togs l) i = y := by
      unfold keyI
      rw [e]
      cases hp : (togs l)[i] with
      | mk a b =>
        rw [hp] at hy
        have hy : a = Sum.inl y := hy
        rw [hy]
    rw [hy, val_togs, if_pos hm] at hv
    have eb : (togs l)[i].2 = .bl (decide (l.count y % 2 = 1)) := (Option.some.inj hv).symm
    unfold onI at h2
    rw [e] at h2
    cases hp : (togs l)[i] with
    | mk a b =>
      rw [hp] at h2 eb
      have eb : b = .bl (decide (l.count y % 2 = 1)) := eb
      rw [eb] at h2
      rw [ek]
      exact of_decide_eq_true h2
  · intro h
    have hx : x ∈ l := List.one_le_count_iff.mp (by omega)
    have hv := val_togs x l
    rw [if_pos hx, decide_eq_true h] at hv
    obtain ⟨i, hi⟩ := at_val hv
    refine ⟨i, List.mem_filter.mpr ⟨List.mem_range.mpr (List.getElem?_eq_some_iff.mp hi).1, ?_⟩, ?_⟩
    · unfold onI
      rw [hi]
    · unfold keyI
      rw [hi]
theorem nd_oddK (l : List Int) : (oddK (togs l)).Nodup := by
  obtain ⟨nd, ks⟩ := keys_togs l
  unfold oddK
  refine List.pairwise_map.mpr (List.Pairwise.imp_of_mem (fun {i j} hi hj hne he => ?_) (List.Pairwise.filter _ (List.pairwise_lt_range (n := (togs l).length))))
  have h1 := List.mem_range.mp (List.mem_filter.mp hi).1
  have h2 := List.mem_range.mp (List.mem_filter.mp hj).1
  have key : ∀ i, (h : i < (togs l).length) → (togs l)[i].1 = Sum.inl (keyI (togs l) i) := fun i h => by
    obtain ⟨y, hy, _⟩ := ks _ (List.getElem_mem h)
    unfold keyI
    rw [List.getElem?_eq_getElem h]
    cases hp : (togs l)[i] with
    | mk a b =>
      rw [hp] at hy
      have hy : a = Sum.inl y := hy
      rw [hy]
  have k1 := key i h1
  have k2 := key j h2
  rw [he] at k1
  have e1 : ((togs l).map (·.1))[i]? = some (Sum.inl (keyI (togs l) j)) := by
    rw [List.getElem?_map, List.getElem?_eq_getElem h1]
    exact congrArg some k1
  have e2 : ((togs l).map (·.1))[j]? = some (Sum.inl (keyI (togs l) j)) := by
    rw [List.getElem?_map, List.getElem?_eq_getElem h2]
    exact congrArg some k2
  have := nd_ix nd e1 e2
  omega
/-- the sum by two of lots -/
def sum2 (ls : List (List Int)) : List Int := (asc ls.flatten).filter fun x => decide (ls.flatten.count x % 2 = 1)
theorem sum2_pw (ls : List (List Int)) : (sum2 ls).Pairwise (· < ·) := List.Pairwise.filter _ (asc_pw _)
theorem mem_sum2 {ls : List (List Int)} {x : Int} : x ∈ sum2 ls ↔ ls.flatten.count x % 2 = 1 := by
  unfold sum2
  rw [List.mem_filter, mem_asc, decide_eq_true_iff]
  constructor
  · exact fun h => h.2
  · intro h
    refine ⟨?_, h⟩
    refine List.one_le_count_iff.mp ?_
    omega
/-- two rows sorted by ≤ with the same members, no number twice -/
theorem sort_is {ns ys zs : List Int} (hp : ys.Perm ns) (hs : ys.Pairwise (· ≤ ·)) (hn : ns.Nodup) (hz : zs.Pairwise (· < ·)) (hm : ∀ x, x ∈ ns ↔ x ∈ zs) : ys = zs := by
  have hy : ys.Nodup := hp.nodup_iff.mpr hn
  refine asc_ext ?_ hz fun x => by rw [hp.mem_iff, hm]
  refine List.Pairwise.imp₂ (R := fun a b => a ≤ b) (S := fun a b => a ≠ b) (fun a b h1 h2 => ?_) hs hy
  omega
end KS
namespace KS
open PySem PySem.Spec PyProof.Rows L2 KR KM Evl
section
variable {P : Program} {w : World} {K : PySem.W.Frag} {mg : Str → Option Value} {base : Heap}
abbrev sSum : Stmt := topS 1
theorem scSum : FnScope ["lots", "odd", "lot", "number"] ["lots"] (defScope sSum) := ⟨rfl, rfl, rfl, by decide +kernel, rfl, by decide +kernel, by decide +kernel⟩
def spSum (K : PySem.W.Frag) : Sp := fun vs H Q _ => ∃ (v : V) (ls : List (List Int)), vs = [v] ∧ LotsR K H v ls ∧ ls.flatten.length ≤ 5000 ∧ RetT (sum2 ls) H Q
theorem take_succ_flat {ls : List (List Int)} {i : Nat} {l : List Int} (h : ls[i]? = some l) : (ls.take (i + 1)).flatten = (ls.take i).flatten ++ l := by
  rw [List.take_add_one, h, List.flatten_append]
  simp
theorem flat_le (ls : List (List Int)) (i : Nat) : (ls.take i).flatten.length ≤ ls.flatten.length := by
  have h := congrArg (fun l => (List.flatten l).length) (List.take_append_drop i ls)
  simp only [List.flatten_append, List.length_append] at h
  omega
theorem flat_get_le {ls : List (List Int)} {i : Nat} {l : List Int} (h : ls[i]? = some l) : ((ls.take i).flatten ++ l).length ≤ ls.flatten.length := by
  rw [← take_succ_flat h]
  exact flat_le _ _
theorem ok_sum {f : Addr} {fd : FuncData} {k : Nat} (F : Fun K "sum_of" "sum_of" sSum f fd) (B : Bu mg) : FnOk P w K mg base CX0 (k + 1) f fd ["lots"] (spSum K) := by
  refine F.ok scSum (fun vs H Q E h => ?_) (fun cdv A outer s H vs Q E hr h => ?_)
  · obtain ⟨v, ls, rfl, _⟩ := h
    rfl
  · obtain ⟨v, ls, rfl, hL, hz, q⟩ := h
    obtain ⟨a, xs, rfl, hS, hP⟩ := hL
    have hu := hu_of hr
    refine ⟨_, pss_cons (ps_set (i := 1) scSum.nd rfl (Or.inr rfl) pe_dnewK)
      (pss_cons (ps_for PassesOwn.never rfl (pi_seq (pv 0)) (pg_name (i := 2) scSum.nd rfl (.inl rfl))
        (pss_one (ps_for PassesOwn.never rfl (pi_seq (pv 2)) (pg_name (i := 3) scSum.nd rfl (.inl rfl))
          (pss_one (ps_dput hu (pv 1) (pv 3) (pe_not (pe_dget2 hu (pv 1) (pv 3) pe_bl ⟨rfl, rfl, rfl, rfl⟩)) rfl)))))
      (pss_one (ps_ret (pe_tupleOf rfl B.tuple (pe_callB cr_sortedI rfl B.sorted boot_sorted (pa_cons
        (pe_lock (pe_lc (own := [("number", 3)]) (g := gName 3) rfl scSum.nd (pi_keys (pv 1)) (blkOk_by (N := ["lots", "odd", "lot", "number"]) (sc := defScope sSum) (by decide +kernel))
          (fun _ _ _ _ _ => pg_name (i := 3) scSum.nd rfl (Or.inl rfl)) (fun _ _ _ _ _ => pts_one (pt_val (pe_dget hu (pv 1) (pv 3) (fun _ _ => rfl)))) (fun _ _ _ _ _ => pv 3))) pa_nil)))))), ?_⟩
    refine fun d hd => ?_
    have e0 : Ex H (upd H d (.dK [])) := Ex.new hd
    refine s_forSq (H0 := H) (H := upd H d (.dK [])) (ev_var rfl) hS e0 (fun i σ' H' => ∃ y2 y3, σ' = [some (.ref a), some (.ref d), y2, y3] ∧ Ex H H' ∧ H' d = some (.dK (togs (ls.take i).flatten)))
      (fun H1 e => ⟨none, none, rfl, e0.trans e, e d _ upd_same⟩) (fun i σ' H' _ ⟨_, _, _, e, _⟩ => e) ?_ ?_
    · rintro i x σ' H' hi ⟨y2, y3, rfl, e1, hD⟩
      obtain ⟨l, hl, b, rfl, hB⟩ := pget hP hi
      refine s_forSq (H0 := H) (H := H') (ev_var rfl) hB e1 (fun j σ2 H2 => ∃ y3, σ2 = [some (.ref a), some (.ref d), some (.ref b), y3] ∧ Ex H H2 ∧ H2 d = some (.dK (togs ((ls.take i).flatten ++ l.take j))))
        (fun H1 e => ⟨y3, rfl, e1.trans e, by rw [List.take_zero, List.append_nil]; exact e d _ hD⟩) (fun j σ2 H2 _ ⟨_, _, e, _⟩ => e) ?_ ?_
      · rintro j z σ2 H2 hj ⟨y3', rfl, e2, hD2⟩
        rw [List.getElem?_map] at hj
        obtain ⟨n, hn, rfl⟩ : ∃ n, l[j]? = some n ∧ z = .int n := by
          cases e : l[j]? with
          | none => rw [e] at hj; cases hj
          | some n => rw [e] at hj; exact ⟨n, rfl, (Option.some.inj hj).symm⟩
        obtain ⟨c, hc, hp⟩ := got_tog ((ls.take i).flatten ++ l.take j) n
        have hlen : (togs ((ls.take i).flatten ++ l.take j)).length < sizeLine := by
          have h1 := len_togs ((ls.take i).flatten ++ l.take j)
          have h2 := flat_get_le hl
          rw [List.length_append] at h1 h2
          have h3 := List.length_take_le' j l
          exact sz_lt (by omega)
        refine ⟨.ref d, rfl, d, rfl, .inl ⟨_, .inl hD2⟩, .int n, rfl, _, DGet.k (k := Sum.inl n) hD2, c, hc, .ref d, rfl, .int n, rfl, d, _, rfl, DPut.k (k := Sum.inl n) hD2 hlen, ?_⟩
        refine ⟨_, rfl, Ex.mut e2 hd, ?_⟩
        rw [upd_same, hp, List.append_assoc, List.take_add_one, hn]
        rfl
      · rintro σ2 H2 ⟨y3', rfl, e2, hD2⟩
        refine ⟨_, _, rfl, e2, ?_⟩
        rw [List.length_map, List.take_length] at hD2
        rw [take_succ_flat hl]
        exact hD2
    · rintro σ' H' ⟨y2, y3, rfl, e1, hD⟩
      have hxl : xs.length = ls.length := Paired.length hP
      rw [hxl, List.take_length] at hD
      generalize hks : togs ls.flatten = kvs at hD
      refine ⟨d, _, hD, trivial, fun od => ?_⟩
      refine ⟨.ref d, rfl, d, od, rfl, .inl ⟨kvs, upd_same, fun D hDn => ?_⟩⟩
      have hlk : kvs.length ≤ 5000 := by
        rw [← hks]
        exact Nat.le_trans (len_togs _) hz
      refine lc_it (walk_keys (kvs := kvs)) (Cw (upd H' d (.frz od (.dK kvs))) (onI kvs) (fun i => V.int (keyI kvs i)) D) ⟨hDn, Ex.new hDn, upd_same⟩ (fun i H2 _ p => p.2.1 d _ upd_same) ?_ ?_
      · rintro i x H2 H3 hi p ⟨rfl, kk, vv, hkv, rfl⟩
        refine ⟨rfl, ?_⟩
        obtain ⟨n, rfl, hn⟩ := (keys_togs ls.flatten).2 _ (by rw [hks]; exact List.mem_of_getElem? hkv)
        have hv : valV kvs (Sum.inl n : Key) = some vv := by
          rw [← hks]
          exact val_at (keys_togs ls.flatten).1 (by rw [hks]; exact hkv)
        obtain ⟨c, rfl⟩ : ∃ c, vv = .bl c := by
          have h2 := val_togs n ls.flatten
          rw [hks, hv, if_pos hn] at h2
          exact ⟨_, Option.some.inj h2⟩
        have hon : onI kvs i = c := by
          unfold onI
          rw [hkv]
        have hkey : keyI kvs i = n := by
          unfold keyI
          rw [hkv]
        refine cw_turn p (by omega) (fun H4 e4 Q4 q4 => ?_) (fun _ => ?_)
        · have hd4 : H4 d = some (.frz od (.dK kvs)) := e4 d _ upd_same
          refine ⟨.ref d, rfl, .int n, rfl, d, .bl c, rfl, ?_, c, rfl, by rw [hon] at q4; exact q4 _ (Ex.refl _)⟩
          have g : DGet H4 d (kV (Sum.inl n)) (valV kvs (Sum.inl n : Key)) := .inl ⟨kvs, Sum.inl n, .inr ⟨od, hd4⟩, rfl, rfl⟩
          rw [hv] at g
          exact g
        · show Ev (tVar 3) _ _ (V.int (keyI kvs i))
          rw [hkey]
          exact ev_var rfl
      · rintro H2 ⟨hDf, e2, hDl⟩
        have hd2 : H2 d = some (.frz od (.dK kvs)) := e2 d _ upd_same
        refine ⟨hd2, ?_⟩
        rw [given_oddK] at hDl
        have nDd : D ≠ d := fun z => by rw [z, upd_same] at hDf; cases hDf
        have e3 : Ex H (upd H2 d (.dK kvs)) := fun c o hc => by
          have n1 : c ≠ d := ne_of_none hc hd
          rw [upd_ne n1]
          refine e2 c o ?_
          rw [upd_ne n1]
          exact e1 c o hc
        have hD3 : (upd H2 d (.dK kvs)) D = some (.lst ((oddK kvs).map V.int)) := by
          rw [upd_ne nDd]
          exact hDl
        refine ⟨D, oddK kvs, rfl, sq_of hD3, fun ns' p hp hs hpn => .inl ⟨p, _, rfl, sq_of upd_same, fun r hr => ?_⟩⟩
        have e4 : Ex H (upd (upd H2 d (.dK kvs)) p (.lst (ns'.map V.int))) := e3.trans (Ex.new hpn)
        have en : ns' = sum2 ls := sort_is hp hs (by rw [← hks]; exact nd_oddK _) (sum2_pw ls) (fun x => by rw [← hks, mem_oddK, mem_sum2])
        refine q r _ (fresh_back e4 hr) (e4.trans (Ex.new hr)) ?_
        rw [upd_same, en]
end
end KS
namespace KS
open PySem PySem.Spec PyProof.Rows L2 KR KM Evl
/-! ### numbers_in -/
def seenK (l : List Int) : List (Key × V) := l.foldl (fun kvs x => putK kvs (Sum.inl x) (.bl true)) []
theorem seen_snoc (l : List Int) (x : Int) : seenK (l ++ [x]) = putK (seenK l) (Sum.inl x) (.bl true) := by
  unfold seenK
  rw [List.foldl_append]
  rfl
theorem len_seen : ∀ l : List Int, (seenK l).length ≤ l.length := rev_ind (by simp [seenK]) fun l x ih => by
  rw [seen_snoc, List.length_append, List.length_singleton]
  exact Nat.le_trans (len_putK _ _ _) (Nat.succ_le_succ ih)
theorem keys_seen : ∀ l : List Int, ∃ ks : List Int, (seenK l).map (·.1) = ks.map Sum.inl ∧ ks.Nodup ∧ ∀ x, x ∈ ks ↔ x ∈ l := rev_ind ⟨[], rfl, List.nodup_nil, fun x => Iff.rfl⟩ fun l y ih => by
  obtain ⟨ks, h1, h2, h3⟩ := ih
  rw [seen_snoc]
  have hin : (Sum.inl y : Key) ∈ (seenK l).map (·.1) ↔ y ∈ ks := by
    rw [h1, List.mem_map]
    exact ⟨fun ⟨z, a, b⟩ => by cases b; exact a, fun a => ⟨y, a, rfl⟩⟩
  cases e : valV (seenK l) (Sum.inl y : Key) with
  | none =>
    have hn : ¬ y ∈ ks := fun z => valV_not e (hin.mpr z)
    refine ⟨ks ++ [y], ?_, ?_, fun x => ?_⟩
    · rw [putK_new _ e, List.map_append, List.map_append, h1]
      rfl
    · refine List.nodup_append.mpr ⟨h2, by simp, fun a ha b hb z => hn ?_⟩
      have : b = y := by simpa using hb
      rw [← this, ← z]
      exact ha
    · rw [List.mem_append, List.mem_append, h3]
  | some v =>
    have hy : y ∈ ks := hin.mp (valV_in e)
    refine ⟨ks, ?_, h2, fun x => ?_⟩
    · rw [← h1]
      unfold putK
      rw [if_pos (by rw [valV_any, e]; rfl), List.map_map]
      refine List.map_congr_left fun p _ => ?_
      show (if p.1 = Sum.inl y then (p.1, V.bl true) else p).1 = p.1
      split <;> rfl
    · rw [h3, List.mem_append]
      constructor
      · exact .inl
      · rintro (h | h)
        · exact h
        · have : x = y := by simpa using h
          rw [this]
          exact (h3 y).mp hy
section
variable {P : Program} {w : World} {K : PySem.W.Frag} {mg : Str → Option Value} {base : Heap}
abbrev sNum : Stmt := topS 2
theorem scNum : FnScope ["lots", "found", "lot", "number"] ["lots"] (defScope sNum) := ⟨rfl, rfl, rfl, by decide +kernel, rfl, by decide +kernel, by decide +kernel⟩
def spNum (K : PySem.W.Frag) : Sp := fun vs H Q _ => ∃ (v : V) (ls : List (List Int)), vs = [v] ∧ LotsR K H v ls ∧ ls.flatten.length ≤ 5000 ∧ (asc ls.flatten).length < 64 ∧ RetI (asc ls.flatten) H Q
theorem ok_num {f : Addr} {fd : FuncData} {k : Nat} (F : Fun K "numbers_in" "numbers_in" sNum f fd) (B : Bu mg) : FnOk P w K mg base CX0 (k + 1) f fd ["lots"] (spNum K) := by
  refine F.ok scNum (fun vs H Q E h => ?_) (fun cdv A outer s H vs Q E hr h => ?_)
  · obtain ⟨v, ls, rfl, _⟩ := h
    rfl
  · obtain ⟨v, ls, rfl, hL, hz, h64, q⟩ := h
    obtain ⟨a, xs, rfl, hS, hP⟩ := hL
    have hu := hu_of hr
    refine ⟨_, pss_cons (ps_set (i := 1) scNum.nd rfl (Or.inl rfl) pe_dnewK)
      (pss_cons (ps_for PassesOwn.never rfl (pi_seq (pv 0)) (pg_name (i := 2) scNum.nd rfl (.inl rfl))
        (pss_one (ps_for PassesOwn.never rfl (pi_seq (pv 2)) (pg_name (i := 3) scNum.nd rfl (.inl rfl))
          (pss_one (ps_dput hu (pv 1) (pv 3) pe_bl rfl)))))
      (pss_one (ps_ret (pe_callB (call_sortedDI rfl) rfl B.sorted boot_sorted (pa_cons (pv 1) pa_nil))))), ?_⟩
    refine fun d hd => ?_
    have e0 : Ex H (upd H d (.dK [])) := Ex.new hd
    refine s_forSq (H0 := H) (H := upd H d (.dK [])) (ev_var rfl) hS e0 (fun i σ' H' => ∃ y2 y3, σ' = [some (.ref a), some (.ref d), y2, y3] ∧ Ex H H' ∧ H' d = some (.dK (seenK (ls.take i).flatten)))
      (fun H1 e => ⟨none, none, rfl, e0.trans e, e d _ upd_same⟩) (fun i σ' H' _ ⟨_, _, _, e, _⟩ => e) ?_ ?_
    · rintro i x σ' H' hi ⟨y2, y3, rfl, e1, hD⟩
      obtain ⟨l, hl, b, rfl, hB⟩ := pget hP hi
      refine s_forSq (H0 := H) (H := H') (ev_var rfl) hB e1 (fun j σ2 H2 => ∃ y3, σ2 = [some (.ref a), some (.ref d), some (.ref b), y3] ∧ Ex H H2 ∧ H2 d = some (.dK (seenK ((ls.take i).flatten ++ l.take j))))
        (fun H1 e => ⟨y3, rfl, e1.trans e, by rw [List.take_zero, List.append_nil]; exact e d _ hD⟩) (fun j σ2 H2 _ ⟨_, _, e, _⟩ => e) ?_ ?_
      · rintro j z σ2 H2 hj ⟨y3', rfl, e2, hD2⟩
        rw [List.getElem?_map] at hj
        obtain ⟨n, hn, rfl⟩ : ∃ n, l[j]? = some n ∧ z = .int n := by
          cases e : l[j]? with
          | none => rw [e] at hj; cases hj
          | some n => rw [e] at hj; exact ⟨n, rfl, (Option.some.inj hj).symm⟩
        have hlen : (seenK ((ls.take i).flatten ++ l.take j)).length < sizeLine := by
          have h1 := len_seen ((ls.take i).flatten ++ l.take j)
          have h2 := flat_get_le hl
          rw [List.length_append] at h1 h2
          have h3 := List.length_take_le' j l
          exact sz_lt (by omega)
        refine ⟨.ref d, rfl, .int n, rfl, d, _, rfl, DPut.k (k := Sum.inl n) hD2 hlen, ?_⟩
        refine ⟨_, rfl, Ex.mut e2 hd, ?_⟩
        rw [upd_same, ← seen_snoc, List.append_assoc, List.take_add_one, hn]
        rfl
      · rintro σ2 H2 ⟨y3', rfl, e2, hD2⟩
        refine ⟨_, _, rfl, e2, ?_⟩
        rw [List.length_map, List.take_length] at hD2
        rw [take_succ_flat hl]
        exact hD2
    · rintro σ' H' ⟨y2, y3, rfl, e1, hD⟩
      have hxl : xs.length = ls.length := Paired.length hP
      rw [hxl, List.take_length] at hD
      obtain ⟨ks, k1, k2, k3⟩ := keys_seen ls.flatten
      have kl : ks.length < 64 := by
        have hp : ks.length ≤ (asc ls.flatten).length := (List.nodup_iff_count.mp k2 |> fun _ => List.Nodup.length_le_of_subset k2 fun x hx => mem_asc.mpr ((k3 x).mp hx))
        omega
      refine ⟨.ref d, rfl, d, _, ks, rfl, .inl hD, k1, kl, fun ys p hp hs hpn => ?_⟩
      have en : ys = asc ls.flatten := sort_is hp hs k2 (asc_pw _) (fun x => by rw [k3, mem_asc])
      refine q p _ (fresh_back e1 hpn) (e1.trans (Ex.new hpn)) ?_
      rw [upd_same, en]
end
end KS
namespace KS
open PySem PySem.Spec PyProof.Rows L2 KR KM Evl
/-! ### mask_of -/
/-- the dict of places -/
def plK (ms : List Int) : List (Key × V) := ms.zipIdx.map fun p => (Sum.inl p.1, V.int (p.2 : Int))
theorem plK_at {ms : List Int} {i : Nat} {x : Int} (h : ms[i]? = some x) : (plK ms)[i]? = some (Sum.inl x, V.int (i : Int)) := by
  unfold plK
  rw [List.getElem?_map, List.getElem?_zipIdx, h]
  simp
theorem plK_keys (ms : List Int) : (plK ms).map (·.1) = ms.map Sum.inl := by
  unfold plK
  rw [List.map_map]
  refine List.ext_getElem? fun i => ?_
  rw [List.getElem?_map, List.getElem?_map, List.getElem?_zipIdx]
  cases ms[i]? <;> rfl
theorem plK_nd {ms : List Int} (h : ms.Nodup) : ((plK ms).map (·.1)).Nodup := by
  rw [plK_keys]
  exact List.pairwise_map.mpr (h.imp fun hne e => hne (Sum.inl.inj e))
theorem plK_val {ms : List Int} (h : ms.Nodup) {i : Nat} {x : Int} (hx : ms[i]? = some x) : valV (plK ms) (Sum.inl x : Key) = some (.int (i : Int)) := val_at (plK_nd h) (plK_at hx)
theorem plK_len (ms : List Int) : (plK ms).length = ms.length := by
  unfold plK
  rw [List.length_map, List.length_zipIdx]
theorem plK_snoc (ms : List Int) (x : Int) (h : ¬ x ∈ ms) : putK (plK ms) (Sum.inl x) (.int (ms.length : Int)) = plK (ms ++ [x]) := by
  have hn : valV (plK ms) (Sum.inl x : Key) = none := by
    cases e : valV (plK ms) (Sum.inl x : Key) with
    | none => rfl
    | some v =>
      have := valV_in e
      rw [plK_keys, List.mem_map] at this
      obtain ⟨y, hy, e2⟩ := this
      cases e2
      exact absurd hy h
  rw [putK_new _ hn]
  unfold plK
  rw [List.zipIdx_append, List.map_append]
  simp
abbrev ch (b : Bool) : Nat := if b then 49 else 48
def dgs (ms done : List Int) : List V := ms.reverse.map fun x => V.str ⟨#[ch (decide (x ∈ done))]⟩
theorem dgs_len (ms done : List Int) : (dgs ms done).length = ms.length := by
  unfold dgs
  rw [List.length_map, List.length_reverse]
theorem dgs_set {ms done : List Int} (nd : ms.Nodup) {i : Nat} {x : Int} (hx : ms[i]? = some x) : (dgs ms done).set (ms.length - 1 - i) (V.str ⟨#[49]⟩) = dgs ms (done ++ [x]) := by
  have hi := (List.getElem?_eq_some_iff.mp hx).1
  refine List.ext_getElem? fun j => ?_
  rw [List.getElem?_set, dgs_len]
  unfold dgs
  rw [List.getElem?_map, List.getElem?_map]
  by_cases hj : j < ms.length
  · have e : ms.reverse[j]? = ms[ms.length - 1 - j]? := List.getElem?_reverse hj
    by_cases hij : ms.length - 1 - i = j
    · rw [if_pos hij, if_pos (by omega), e, show ms.length - 1 - j = i by omega, hx]
      simp
    · rw [if_neg hij, e]
      cases ey : ms[ms.length - 1 - j]? with
      | none => rfl
      | some y =>
        have hne : ¬ y = x := fun z => by
          rw [z] at ey
          have := nd_ix nd ey hx
          omega
        simp [hne]
  · have e : ms.reverse[j]? = none := List.getElem?_eq_none (by rw [List.length_reverse]; omega)
    rw [e, if_neg (by omega)]
    rfl
theorem num2_snoc (l : List Nat) (c : Nat) : num2 (l ++ [c]) = num2 l * 2 + (c - 48) := by
  unfold num2
  rw [List.foldl_append]
  rfl
theorem num2_mk (lot : List Int) : ∀ (ms : List Int) (pre : Nat), num2 (pre :: ms.reverse.map fun x => ch (decide (x ∈ lot))) = mk ms lot + 2 ^ ms.length * (pre - 48)
  | [], pre => by
    show 0 * 2 + (pre - 48) = 0 + 2 ^ 0 * (pre - 48)
    omega
  | x :: ms, pre => by
    have ih := num2_mk lot ms pre
    rw [List.reverse_cons, List.map_append, ← List.cons_append, List.map_singleton, num2_snoc, ih]
    have e : ch (decide (x ∈ lot)) - 48 = if x ∈ lot then 1 else 0 := by
      by_cases h : x ∈ lot
      · rw [decide_eq_true h, if_pos h]
        rfl
      · rw [decide_eq_false h, if_neg h]
        rfl
    rw [e, List.length_cons, Nat.pow_succ]
    show (mk ms lot + 2 ^ ms.length * (pre - 48)) * 2 + _ = ((if x ∈ lot then 1 else 0) + 2 * mk ms lot) + 2 ^ ms.length * 2 * (pre - 48)
    have : 2 ^ ms.length * 2 * (pre - 48) = 2 * (2 ^ ms.length * (pre - 48)) := by rw [Nat.mul_comm (2 ^ ms.length) 2, Nat.mul_assoc]
    rw [this]
    omega
theorem fold_cps {sep : Str} (hs : sep.cps = #[]) : ∀ (l : List Nat) (acc : Array Nat), ((l.map fun c => (⟨#[c]⟩ : Str)).foldl (fun acc p => acc ++ sep.cps ++ p.cps) acc).toList = acc.toList ++ l
  | [], acc => by simp
  | c :: l, acc => by
    rw [List.map_cons, List.foldl_cons, fold_cps hs l, hs]
    simp
theorem join_cps {sep : Str} (hs : sep.cps = #[]) (l : List Nat) : (Txt.join sep (l.map fun c => (⟨#[c]⟩ : Str))).cps.toList = l := by
  cases l with
  | nil => rfl
  | cons c r =>
    show (((r.map fun c => (⟨#[c]⟩ : Str)).foldl (fun acc p => acc ++ sep.cps ++ p.cps) #[c])).toList = c :: r
    rw [fold_cps hs]
    rfl
theorem dgs_strs (ms done : List Int) : dgs ms done = ((ms.reverse.map fun x => ch (decide (x ∈ done))).map fun c => (⟨#[c]⟩ : Str)).map V.str := by
  unfold dgs
  rw [List.map_map, List.map_map]
  rfl
theorem rep_one (n : Nat) (v : V) : (List.replicate n [v]).flatten = List.replicate n v := by
  induction n with
  | zero => rfl
  | succ n ih =>
    rw [List.replicate_succ, List.flatten_cons, ih, List.replicate_succ]
    rfl
theorem dgs_nil (ms : List Int) : dgs ms [] = List.replicate ms.length (V.str ⟨#[48]⟩) := by
  unfold dgs
  refine List.eq_replicate_iff.mpr ⟨by simp, fun v hv => ?_⟩
  obtain ⟨x, _, rfl⟩ := List.mem_map.mp hv
  simp
section
variable {P : Program} {w : World} {K : PySem.W.Frag} {mg : Str → Option Value} {base : Heap}
abbrev sMask : Stmt := topS 3
theorem scMask : FnScope ["lot", "places", "digits", "number"] ["lot", "places"] (defScope sMask) := ⟨rfl, rfl, rfl, by decide +kernel, rfl, by decide +kernel, by decide +kernel⟩
def RetN (n : Nat) (H : Hp) (Q : VK) : Prop := ∀ H2, Ex H H2 → Q (.int (n : Int)) H2
def spMask (K : PySem.W.Frag) : Sp := fun vs H Q _ => ∃ (v : V) (d : Addr) (lot ms : List Int), vs = [v, .ref d] ∧ LotR K H v lot ∧ H d = some (.dK (plK ms)) ∧ ms.Nodup ∧ ms.length ≤ 500 ∧ lot.length ≤ 5000 ∧ (∀ x ∈ lot, x ∈ ms) ∧ RetN (mk ms lot) H Q
theorem ok_mask {f : Addr} {fd : FuncData} {k : Nat} (F : Fun K "mask_of" "mask_of" sMask f fd) (B : Bu mg) : FnOk P w K mg base CX0 (k + 1) f fd ["lot", "places"] (spMask K) := by
  refine F.ok scMask (fun vs H Q E h => ?_) (fun cdv A outer s H vs Q E hr h => ?_)
  · obtain ⟨v, d, lot, ms, rfl, _⟩ := h
    rfl
  · obtain ⟨v, d, lot, ms, rfl, hL, hD, nd, hm, hz, hsub, q⟩ := h
    obtain ⟨a, rfl, hS⟩ := hL
    have hu := hu_of hr
    refine ⟨_, pss_cons (ps_set (i := 2) scMask.nd rfl (Or.inl rfl) (pe_op op_rep (pe_lst (pa_cons pe_str pa_nil)) (pe_callB call_lenD rfl B.len PySem.boot_len (pa_cons (pv 1) pa_nil))))
      (pss_cons (ps_for PassesOwn.never rfl (pi_seq (pv 0)) (pg_name (i := 3) scMask.nd rfl (.inl rfl))
        (pss_one (ps_asg pe_str (pg_sub (pv 2) (pe_op op_sub (pe_un un_neg pe_int) (pe_dget hu (pv 1) (pv 3) (fun _ _ => rfl))) set_list))))
      (pss_one (ps_ret (pe_callTy call_int2 rfl B.int boot_int (pa_cons (pe_op op_add_str pe_str (pe_join pe_str (pv 2))) (pa_cons pe_int pa_nil)))))), ?_⟩
    -- digits = ['0'] * len(places)
    refine ⟨by show 1 ≤ sizeLine; decide, fun c hc => ?_⟩
    have e1 : Ex H (upd H c (.lst [.str "0"])) := Ex.new hc
    refine ⟨.ref d, rfl, d, _, rfl, e1 d _ hD, ?_⟩
    refine ⟨c, _, _, rfl, rfl, upd_same, by rw [plK_len]; omega, by rw [plK_len]; omega, ?_, fun g hg => ?_⟩
    · rw [plK_len]
      show 1 * ((ms.length : Int)).toNat ≤ sizeLine
      exact sz_of (by omega)
    · have e2 : Ex H (upd (upd H c (.lst [.str "0"])) g (.lst (List.replicate ((plK ms).length : Int).toNat [V.str "0"]).flatten)) := e1.trans (Ex.new hg)
      have hg0 : H g = none := fresh_back e1 hg
      refine s_forSq (H0 := H) (ev_var rfl) hS e2 (fun j σ2 H2 => ∃ y3, σ2 = [some (.ref a), some (.ref d), some (.ref g), y3] ∧ Ex H H2 ∧ H2 g = some (.lst (dgs ms (lot.take j))))
        (fun H1 e => ⟨none, rfl, e2.trans e, ?_⟩) (fun j σ2 H2 _ ⟨_, _, e, _⟩ => e) ?_ ?_
      · refine (e g _ upd_same).trans ?_
        rw [List.take_zero, dgs_nil, rep_one, plK_len, Int.toNat_natCast]
        rfl
      · rintro j z σ2 H2 hj ⟨y3', rfl, e3, hG⟩
        rw [List.getElem?_map] at hj
        obtain ⟨n, hn, rfl⟩ : ∃ n, lot[j]? = some n ∧ z = .int n := by
          cases e : lot[j]? with
          | none => rw [e] at hj; cases hj
          | some n => rw [e] at hj; exact ⟨n, rfl, (Option.some.inj hj).symm⟩
        obtain ⟨i, hi⟩ := List.getElem?_of_mem (hsub n (List.mem_of_getElem? hn))
        have hil := (List.getElem?_eq_some_iff.mp hi).1
        have hget : DGet H2 d (kV (Sum.inl n)) (some (.int (i : Int))) := by
          have g := DGet.k (k := Sum.inl n) (e3 d _ hD)
          rw [plK_val nd hi] at g
          exact g
        refine ⟨.ref g, rfl, 1, rfl, .ref d, rfl, .int n, rfl, d, _, rfl, hget, -1, (i : Int), rfl, rfl, g, _, -1 - (i : Int), ms.length - 1 - i, rfl, rfl, hG, ?_, ?_⟩
        · rw [dgs_len]
          unfold ixN
          rw [if_neg (by omega), if_pos (by omega)]
          congr 1
          omega
        · refine ⟨_, rfl, Ex.mut e3 hg0, ?_⟩
          rw [upd_same, List.take_add_one, hn]
          exact congrArg (fun l => some (HO.lst l)) (dgs_set nd hi)
      · rintro σ2 H2 ⟨y3', rfl, e3, hG⟩
        rw [List.length_map, List.take_length, dgs_strs] at hG
        have hone : (((ms.reverse.map fun x => ch (decide (x ∈ lot))).map fun c => (⟨#[c]⟩ : Str)).map (·.length)).sum = ms.length := by
          rw [List.map_map]
          have : ∀ l : List Nat, (l.map ((fun x : Str => x.length) ∘ fun c => (⟨#[c]⟩ : Str))).sum = l.length := fun l => by
            induction l with
            | nil => rfl
            | cons c l ih =>
              rw [List.map_cons, List.sum_cons, ih, List.length_cons]
              show 1 + _ = _
              omega
          rw [this]
          simp
        refine ⟨⟨_, rfl⟩, .ref g, rfl, _, g, _, rfl, rfl, .inl (sq_of hG), ?_, ?_⟩
        · rw [hone]
          show ms.length + _ * 0 ≤ _
          omega
        · have hj := join_cps (sep := Str.ofString "") rfl (ms.reverse.map fun x => ch (decide (x ∈ lot)))
          generalize hjj : Txt.join (Str.ofString "") ((ms.reverse.map fun x => ch (decide (x ∈ lot))).map fun c => (⟨#[c]⟩ : Str)) = js at hj
          have hjl : js.length = ms.length := by
            show js.cps.size = _
            rw [← Array.length_toList, hj]
            simp
          have hcps : (Str.ofString "0" ++ js).cps.toList = 48 :: ms.reverse.map fun x => ch (decide (x ∈ lot)) := by
            rw [Str.cps_append, Array.toList_append, hj]
            rfl
          have hlen : (Str.ofString "0" ++ js).length = ms.length + 1 := by
            rw [Str.length_append, hjl, Nat.add_comm]
            rfl
          refine ⟨_, js, rfl, rfl, ?_, _, rfl, ?_, ?_, ?_, ?_⟩
          · rw [hjl]
            show 1 + ms.length ≤ sizeLine
            exact sz_of (by omega)
          · rw [hcps]
            exact List.cons_ne_nil _ _
          · exact Nat.le_trans (Nat.le_of_eq hlen) (by omega)
          · rw [hcps]
            intro c hc
            rcases List.mem_cons.mp hc with e | hc
            · exact .inl e
            · obtain ⟨x, _, rfl⟩ := List.mem_map.mp hc
              by_cases hx : x ∈ lot
              · rw [decide_eq_true hx]; exact .inr rfl
              · rw [decide_eq_false hx]; exact .inl rfl
          · rw [hcps, num2_mk lot ms 48]
            have := q H2 e3
            show Q (.int ((mk ms lot + 2 ^ ms.length * 0 : Nat) : Int)) H2
            rw [Nat.mul_zero, Nat.add_zero]
            exact this
end
end KS
namespace KS
open PySem PySem.Spec PyProof.Rows L2 KR KM Evl
/-! ### bits_of -/
def rd (n : Nat) : List Nat := ((Nat.toDigits 2 n).map Char.toNat).reverse
theorem rd_small {n : Nat} (h : n < 2) : rd n = [48 + n] := by
  unfold rd
  rw [Nat.toDigits_of_lt_base h]
  match n, h with
  | 0, _ => rfl
  | 1, _ => rfl
theorem rd_big {n : Nat} (h : 2 ≤ n) : rd n = (48 + n % 2) :: rd (n / 2) := by
  unfold rd
  rw [Nat.toDigits_of_base_le (by decide) h, List.map_append, List.reverse_append]
  have : (n % 2).digitChar.toNat = 48 + n % 2 := by
    rcases Nat.mod_two_eq_zero_or_one n with e | e <;> rw [e] <;> rfl
  show [(n % 2).digitChar.toNat].reverse ++ _ = _
  rw [this]
  rfl
theorem rd_bit : ∀ (n i c : Nat), (rd n)[i]? = some c → decide (c = 49) = n.testBit i := by
  intro n
  induction n using Nat.strongRecOn with
  | ind n ih =>
    intro i c h
    rcases Nat.lt_or_ge n 2 with hn | hn
    · rw [rd_small hn] at h
      cases i with
      | zero =>
        have e : 48 + n = c := by simpa using h
        subst e
        match n, hn with
        | 0, _ => rfl
        | 1, _ => rfl
      | succ i => simp at h
    · rw [rd_big hn] at h
      cases i with
      | zero =>
        have e : 48 + n % 2 = c := by simpa using h
        subst e
        rw [Nat.testBit_zero]
        rcases Nat.mod_two_eq_zero_or_one n with e | e <;> rw [e] <;> rfl
      | succ i =>
        rw [Nat.testBit_succ]
        exact ih (n / 2) (by omega) i c (by simpa using h)
theorem rd_len : ∀ n : Nat, bl n ≤ (rd n).length := by
  intro n
  induction n using Nat.strongRecOn with
  | ind n ih =>
    rcases Nat.lt_or_ge n 2 with hn | hn
    · rw [rd_small hn]
      exact bl_le_of_lt (by simpa using hn)
    · rw [rd_big hn, List.length_cons]
      have h := ih (n / 2) (by omega)
      refine bl_le_of_lt ?_
      have h2 := Nat.lt_of_lt_of_le (bl_lt (n / 2)) (Nat.pow_le_pow_right (by decide : 0 < 2) h)
      rw [Nat.pow_succ]
      omega
def on1 (l : List Nat) (i : Nat) : Bool := match l[i]? with | some c => decide (c = 49) | none => false
theorem rd_bits (n : Nat) : (List.range (rd n).length).filter (on1 (rd n)) = bits n := by
  refine ascN_ext (List.Pairwise.filter _ List.pairwise_lt_range) (bits_pw n) fun i => ?_
  rw [mem_bits, List.mem_filter, List.mem_range]
  constructor
  · rintro ⟨h1, h2⟩
    unfold on1 at h2
    rw [List.getElem?_eq_getElem h1] at h2
    rw [← rd_bit n i _ (List.getElem?_eq_getElem h1)]
    exact h2
  · intro h
    have h1 : i < (rd n).length := by
      rcases Nat.lt_or_ge i (rd n).length with z | z
      · exact z
      · rw [bl_hi (Nat.le_trans (rd_len n) z)] at h
        cases h
    refine ⟨h1, ?_⟩
    unfold on1
    rw [List.getElem?_eq_getElem h1]
    show decide ((rd n)[i] = 49) = true
    rw [rd_bit n i _ (List.getElem?_eq_getElem h1)]
    exact h
theorem digits_le {n : Nat} (h : n < 2 ^ 500) : (Nat.toDigits 2 n).length ≤ 500 := (Nat.length_toDigits_le_iff (by decide) (by decide)).mpr h
theorem revS_bin (n : Nat) : (revS (bText n)).cps.toList = rd n := by
  show ((bText n).cps.toList.reverse.toArray).toList = _
  unfold bText rd
  simp
section
variable {P : Program} {w : World} {K : PySem.W.Frag} {mg : Str → Option Value} {base : Heap}
abbrev sBits : Stmt := topS 4
theorem scBits : FnScope ["mask", "digits", "at", "digit"] ["mask"] (defScope sBits) := ⟨rfl, rfl, rfl, by decide +kernel, rfl, by decide +kernel, by decide +kernel⟩
abbrev ofN (l : List Nat) : List Int := l.map Int.ofNat
def spBits (K : PySem.W.Frag) : Sp := fun vs H Q _ => ∃ n : Nat, vs = [.int (n : Int)] ∧ n < 2 ^ 500 ∧ RetI (ofN (bits n)) H Q
theorem cw_up {H H1 H2 : Hp} {f : Nat → Bool} {v : Nat → V} {D : Addr} {i : Nat} (p : Cw H f v D i H1) {T : Addr} {o : HO} (hT : H1 T = none) (e : H2 = upd H1 T o) : Cw H f v D i H2 := by
  obtain ⟨a, b, c⟩ := p
  subst e
  exact ⟨a, b.trans (Ex.new hT), Ex.new hT D _ c⟩
theorem ok_bits {f : Addr} {fd : FuncData} {k : Nat} (F : Fun K "bits_of" "bits_of" sBits f fd) (B : Bu mg) : FnOk P w K mg base CX0 (k + 1) f fd ["mask"] (spBits K) := by
  refine F.ok scBits (fun vs H Q E h => ?_) (fun cdv A outer s H vs Q E hr h => ?_)
  · obtain ⟨n, rfl, _⟩ := h
    rfl
  · obtain ⟨n, rfl, hn, q⟩ := h
    refine ⟨_, pss_cons (ps_set (i := 1) scBits.nd rfl (Or.inl rfl) (pe_fmtB (pv 0)))
      (pss_one (ps_ret (pe_lc (own := [("at", 2), ("digit", 3)]) (g := gTup K 2 (gCons (gName 2) (gCons (gName 3) gNil))) rfl scBits.nd (pi_enumS rfl B.enumerate (pa_cons (pe_revS (pv 1)) pa_nil)) (blkOk_by (N := ["mask", "digits", "at", "digit"]) (sc := defScope sBits) (by decide +kernel))
          (fun _ _ _ _ _ => pg_tup rfl (pgs_cons (pg_name (i := 2) scBits.nd rfl (Or.inl rfl)) (pgs_cons (pg_name (i := 3) scBits.nd rfl (Or.inl rfl)) pgs_nil))) (fun _ _ _ _ _ => pts_one (pt_cmpR op_eq (pv 3) pe_str (nomark _))) (fun _ _ _ _ _ => pv 2)))), ?_⟩
    have hd := digits_le hn
    have hbl : (bText n).length ≤ 500 := by
      show ((Nat.toDigits 2 n).map Char.toNat).toArray.size ≤ 500
      simpa using hd
    refine ⟨_, rfl, n, rfl, by omega, ?_⟩
    refine ⟨_, rfl, bText n, rfl, sz_of (by omega), revS (bText n), rfl, fun D hD => ?_⟩
    have hsz : (revS (bText n)).cps.size = (rd n).length := by
      rw [← Array.length_toList, revS_bin]
    refine lc_it walk_enumS (Cw H (on1 (rd n)) (fun i => V.int (Int.ofNat i)) D) ⟨hD, Ex.new hD, upd_same⟩ (fun _ _ _ _ => trivial) ?_ ?_
    · rintro i x H1 H2 hi p ⟨T, x1, x2, rfl, hT, eH, e1, e2⟩
      have p2 := cw_up p hT eH
      have hi2 : i < (rd n).length := by rw [← hsz]; exact hi
      have hl : (rd n).length ≤ 500 := by
        have : (rd n).length = (Nat.toDigits 2 n).length := by unfold rd; simp
        omega
      refine ⟨T, [x1, x2], rfl, st_of (by rw [eH]; exact upd_same), rfl, x1, [x2], rfl, x2, [], rfl, rfl, rfl, ?_⟩
      have e1 : V.int (i : Int) = x1 := Option.some.inj e1
      have hc : (revS (bText n)).cps[i]? = some (rd n)[i] := by
        rw [← Array.getElem?_toList, revS_bin]
        exact List.getElem?_eq_getElem hi2
      have e2 : x2 = V.str ⟨#[(rd n)[i]]⟩ := by
        have e2 : Option.map (fun c => V.str ⟨#[c]⟩) (revS (bText n)).cps[i]? = some x2 := e2
        rw [hc] at e2
        exact (Option.some.inj e2).symm
      subst e1 e2
      refine cw_turn p2 (by omega) (fun H4 e4 Q4 q4 => ?_) (fun _ => ev_var rfl)
      refine ⟨_, rfl, rfl, _, rfl, ?_⟩
      have : decide (V.str ⟨#[(rd n)[i]]⟩ = V.str "1") = on1 (rd n) i := by
        unfold on1
        rw [List.getElem?_eq_getElem hi2]
        show _ = decide ((rd n)[i] = 49)
        generalize (rd n)[i] = c
        by_cases h : c = 49
        · subst h; rfl
        · rw [decide_eq_false h]
          refine decide_eq_false fun z => h ?_
          have z1 : (⟨#[c]⟩ : Str) = ⟨#[49]⟩ := V.str.inj z
          have z2 := congrArg (fun s : Str => s.cps.toList) z1
          simpa using z2
      rw [this]
      exact q4 _ (Ex.refl _)
    · rintro H2 ⟨hDf, e2, hDl⟩
      refine q D H2 hDf e2 ?_
      rw [hDl, hsz]
      unfold given
      rw [rd_bits]
      show some (HO.lst ((bits n).map fun i => V.int (Int.ofNat i))) = some (HO.lst (((bits n).map Int.ofNat).map V.int))
      rw [List.map_map]
      rfl
end
end KS
namespace KS
open PySem PySem.Spec PyProof.Rows L2 KR KM Evl
/-! ### left_over -/
theorem bit0 (x : Nat) : x % 2 = if x.testBit 0 then 1 else 0 := by
  rw [Nat.testBit_zero]
  rcases Nat.mod_two_eq_zero_or_one x with e | e <;> rw [e] <;> rfl
theorem xor_and_or : ∀ a b : Nat, (a ^^^ b) + (a &&& b) = a ||| b := by
  intro a
  induction a using Nat.strongRecOn with
  | ind a ih =>
    intro b
    by_cases h0 : a = 0
    · subst h0
      simp
    · have h := ih (a / 2) (by omega) (b / 2)
      have d1 : (a ^^^ b) / 2 = (a / 2) ^^^ (b / 2) := Nat.xor_div_two
      have d2 : (a &&& b) / 2 = (a / 2) &&& (b / 2) := Nat.and_div_two
      have d3 : (a ||| b) / 2 = (a / 2) ||| (b / 2) := Nat.or_div_two
      have m1 : (a ^^^ b) % 2 + (a &&& b) % 2 = (a ||| b) % 2 := by
        rw [bit0 (a ^^^ b), bit0 (a &&& b), bit0 (a ||| b), Nat.testBit_xor, Nat.testBit_and, Nat.testBit_or]
        cases a.testBit 0 <;> cases b.testBit 0 <;> rfl
      rw [← d1, ← d2, ← d3] at h
      omega
theorem xor_nn (a b : Nat) : Builtin.bitXor (a : Int) (b : Int) = ((a ^^^ b : Nat) : Int) := by
  show Builtin.bitOr (a : Int) (b : Int) - Builtin.bitAnd (a : Int) (b : Int) = _
  rw [bitOr_nn (Int.natCast_nonneg _) (Int.natCast_nonneg _), bitAnd_pp (Int.natCast_nonneg _) (Int.natCast_nonneg _), Int.toNat_natCast, Int.toNat_natCast]
  have := xor_and_or a b
  omega
theorem and_nn (a b : Nat) : Builtin.bitAnd (a : Int) (b : Int) = ((a &&& b : Nat) : Int) := by
  rw [bitAnd_pp (Int.natCast_nonneg _) (Int.natCast_nonneg _), Int.toNat_natCast, Int.toNat_natCast]
theorem or_nn (a b : Nat) : Builtin.bitOr (a : Int) (b : Int) = ((a ||| b : Nat) : Int) := by
  rw [bitOr_nn (Int.natCast_nonneg _) (Int.natCast_nonneg _), Int.toNat_natCast, Int.toNat_natCast]
theorem bits_bl (m : Nat) : Builtin.Int.intBits (m : Int) = bl m := by
  unfold Builtin.Int.intBits bl
  by_cases h : m = 0
  · subst h; rfl
  · rw [if_neg h, if_neg (by
      intro z
      have := beq_iff_eq.mp z
      omega)]
    rfl
def RowR (K : PySem.W.Frag) (H : Hp) (kv : Key × V) (e : Nat × Nat × Nat) : Prop := kv.1 = Sum.inl (e.1 : Int) ∧ ∃ t, kv.2 = .ref t ∧ SqT K H t [.int (e.2.1 : Int), .int (e.2.2 : Int)]
def BasR (K : PySem.W.Frag) (H : Hp) (d : Addr) (B : Bas) : Prop := ∃ kvs, H d = some (.dK kvs) ∧ Paired (RowR K H) kvs B
theorem rows_up {K : PySem.W.Frag} {H H' : Hp} {kvs : List (Key × V)} {B : Bas} (e : Ex H H') (h : Paired (RowR K H) kvs B) : Paired (RowR K H') kvs B := L2.Paired.mapP h fun _ _ ⟨a, t, b, c⟩ => ⟨a, t, b, ex_t e c⟩
theorem BasR.up {K : PySem.W.Frag} {H H' : Hp} {d : Addr} {B : Bas} (e : Ex H H') (h : BasR K H d B) : BasR K H' d B := let ⟨kvs, a, b⟩ := h; ⟨kvs, e d _ a, rows_up e b⟩
theorem bas_val {K : PySem.W.Frag} {H : Hp} (l : Nat) : ∀ {kvs : List (Key × V)} {B : Bas}, Paired (RowR K H) kvs B → match look B l with
    | none => valV kvs (Sum.inl (l : Int) : Key) = none
    | some (r, o) => ∃ t, valV kvs (Sum.inl (l : Int) : Key) = some (.ref t) ∧ SqT K H t [.int (r : Int), .int (o : Int)]
  | _, _, .nil => rfl
  | kv :: kvs, e :: B, .cons r rest => by
    have ih := bas_val (K := K) (H := H) l rest
    obtain ⟨h1, t, h2, h3⟩ := r
    unfold look at ih ⊢
    rw [List.find?_cons]
    by_cases el : e.1 = l
    · rw [decide_eq_true el]
      show ∃ t, valV (kv :: kvs) (Sum.inl (l : Int) : Key) = some (.ref t) ∧ SqT K H t [.int (e.2.1 : Int), .int (e.2.2 : Int)]
      refine ⟨t, ?_, h3⟩
      rw [← h2]
      exact valV_pos (by rw [h1, el])
    · rw [decide_eq_false el]
      have hne : ¬ kv.1 = (Sum.inl (l : Int) : Key) := fun z => by
        rw [h1] at z
        have := Sum.inl.inj z
        omega
      rw [valV_neg hne]
      exact ih
section
variable {P : Program} {w : World} {K : PySem.W.Frag} {mg : Str → Option Value} {base : Heap}
abbrev sLeft : Stmt := topS 5
theorem scLeft : FnScope ["basis", "mask", "numbers", "row", "others"] ["basis", "mask", "numbers"] (defScope sLeft) := ⟨rfl, rfl, rfl, by decide +kernel, rfl, by decide +kernel, by decide +kernel⟩
def RetP (p : Nat × Nat) (H : Hp) (Q : VK) : Prop := ∀ a H2, H a = none → Ex H H2 → H2 a = some (.tup [.int (p.1 : Int), .int (p.2 : Int)]) → Q (.ref a) H2
def spLeft (K : PySem.W.Frag) : Sp := fun vs H Q _ => ∃ (d : Addr) (m n : Nat) (B : Bas), vs = [.ref d, .int (m : Int), .int (n : Int)] ∧ BasR K H d B ∧ Good B ∧ RetP (left B m n) H Q
theorem ok_left {f : Addr} {fd : FuncData} {k : Nat} (F : Fun K "left_over" "left_over" sLeft f fd) : FnOk P w K mg base CX0 (k + 1) f fd ["basis", "mask", "numbers"] (spLeft K) := by
  refine F.ok scLeft (fun vs H Q E h => ?_) (fun cdv A outer s H vs Q E hr h => ?_)
  · obtain ⟨d, m, n, B, rfl, _⟩ := h
    rfl
  · obtain ⟨d, m, n, B, rfl, hB, g, q⟩ := h
    obtain ⟨kvs, hd, hP⟩ := hB
    have hu := hu_of hr
    refine ⟨_, pss_cons (ps_while PassesOwn.never (pt_cmp (pc_din hu (pe_bits (pv 1)) (pv 0)))
        (pss_cons (ps_asg (pe_dget hu (pv 0) (pe_bits (pv 1)) (fun _ _ => rfl)) (pg_tup rfl (pgs_cons (pg_name (i := 3) scLeft.nd rfl (.inl rfl)) (pgs_cons (pg_name (i := 4) scLeft.nd rfl (.inl rfl)) pgs_nil))))
        (pss_cons (ps_set (i := 1) scLeft.nd rfl (.inl rfl) (pe_op op_xor (pv 1) (pv 3)))
        (pss_one (ps_set (i := 2) scLeft.nd rfl (.inl rfl) (pe_op op_xor (pv 2) (pv 4)))))))
      (pss_one (ps_ret (pe_tup (pa_cons (pv 1) (pa_cons (pv 2) pa_nil))))), ?_⟩
    refine s_while (fun k σ' H' => ∃ m' n' y3 y4, σ' = [some (.ref d), some (.int ((m' : Nat) : Int)), some (.int ((n' : Nat) : Int)), y3, y4] ∧ Ex H H' ∧ left B m' n' = left B m n ∧ k = bl m') (bl m) ⟨m, n, none, none, rfl, Ex.refl H, rfl, rfl⟩ ?_
    rintro k' σ' H' ⟨m', n', y3, y4, rfl, e1, hl, rfl⟩
    have hv := bas_val (K := K) (H := H) (bl m') hP
    refine ⟨(look B (bl m')).isSome, fun H1 e Q1 q1 => ?_, fun hb H1 e => ?_, fun hb H1 e => ?_⟩
    · refine ⟨_, rfl, (m' : Int), rfl, .ref d, rfl, d, _, rfl, DGet.k (k := Sum.inl ((Builtin.Int.intBits (m' : Int) : Nat) : Int)) ((e1.trans e) d _ hd), _, rfl, ?_⟩
      rw [bits_bl]
      cases hlk : look B (bl m') with
      | none =>
        rw [hlk] at hv q1
        have hv : valV kvs (Sum.inl ((bl m' : Nat) : Int) : Key) = none := hv
        rw [hv]
        exact q1 _ (Ex.refl _)
      | some p =>
        rw [hlk] at hv q1
        obtain ⟨t, hv, _⟩ := hv
        rw [hv]
        exact q1 _ (Ex.refl _)
    · cases hlk : look B (bl m') with
      | none => rw [hlk] at hb; cases hb
      | some p =>
        obtain ⟨r, o⟩ := p
        rw [hlk] at hv
        obtain ⟨t, hv, ht⟩ := hv
        refine ⟨fun σ2 H2 => ∃ m2 n2 y3 y4, σ2 = [some (.ref d), some (.int ((m2 : Nat) : Int)), some (.int ((n2 : Nat) : Int)), y3, y4] ∧ Ex H H2 ∧ left B m2 n2 = left B m n ∧ bl m2 < bl m', fun σ2 H2 ⟨m2, n2, z3, z4, a, b, c, d⟩ => ⟨bl m2, d, m2, n2, z3, z4, a, b, c, rfl⟩, ?_⟩
        have hg := DGet.k (k := Sum.inl ((Builtin.Int.intBits (m' : Int) : Nat) : Int)) ((e1.trans e) d _ hd)
        rw [bits_bl, hv] at hg
        refine ⟨.ref d, rfl, _, rfl, (m' : Int), rfl, d, .ref t, rfl, by rw [bits_bl]; exact hg, ?_⟩
        refine ⟨t, _, rfl, ex_t (e1.trans e) ht, rfl, _, _, rfl, _, _, rfl, rfl, ?_⟩
        refine ⟨.int (m' : Int), rfl, .int (r : Int), rfl, _, _, rfl, rfl, .int (n' : Int), rfl, .int (o : Int), rfl, _, _, rfl, rfl, ?_⟩
        refine ⟨m' ^^^ r, n' ^^^ o, some (.int (r : Int)), some (.int (o : Int)), ?_, e1.trans e, ?_, ?_⟩
        · rw [← xor_nn, ← xor_nn]
          rfl
        · rw [← hl]
          exact (left_go g hlk).symm
        · obtain ⟨g1, g2⟩ := g _ (look_some hlk)
          have g1 : bl r = bl m' := g1
          have g2 : 0 < bl m' := g2
          have := bl_xor (m := m') (r := r) (l := bl m' - 1) (by omega) (by omega)
          omega
    · have hlk : look B (bl m') = none := by
        cases hlk : look B (bl m') with
        | none => rfl
        | some p => rw [hlk] at hb; cases hb
      have he := left_end (n := n') hlk
      refine ⟨_, rfl, _, rfl, by show 2 ≤ sizeLine; decide, fun p hp => ?_⟩
      refine q p _ (fresh_back (e1.trans e) hp) ((e1.trans e).trans (Ex.new hp)) ?_
      rw [upd_same, ← hl, he]
end
end KS
namespace KS
open PySem PySem.Spec PyProof.Rows L2 KR KM Evl
section
variable {P : Program} {w : World} {K : PySem.W.Frag} {mg : Str → Option Value} {base : Heap}
abbrev sBas : Stmt := topS 6
theorem scBas : FnScope ["masks", "basis", "at", "mask", "left", "numbers"] ["masks"] (defScope sBas) := ⟨rfl, rfl, rfl, by decide +kernel, rfl, by decide +kernel, by decide +kernel⟩
def RetB (K : PySem.W.Frag) (B : Bas) (H : Hp) (Q : VK) : Prop := ∀ p H2, H p = none → Ex H H2 → BasR K H2 p B → Q (.ref p) H2
def spBas (K : PySem.W.Frag) : Sp := fun vs H Q _ => ∃ (a : Addr) (ms : List Nat), vs = [.ref a] ∧ SqL K H a ((ofN ms).map V.int) ∧ ms.length ≤ 1000 ∧ RetB K (bas ms) H Q
theorem len_bas : ∀ ms : List Nat, (bas ms).length ≤ ms.length := rev_ind (Nat.le_refl _) fun l x ih => by
  rw [bas_snoc, List.length_append, List.length_singleton]
  unfold addTo
  split
  · omega
  · rw [List.length_append, List.length_singleton]
    omega
theorem paired_snoc {α β : Type} {F : α → β → Prop} : ∀ {xs : List α} {ys : List β} {x : α} {y : β}, Paired F xs ys → F x y → Paired F (xs ++ [x]) (ys ++ [y])
  | _, _, _, _, .nil, h => .cons h .nil
  | _, _, _, _, .cons r t, h => .cons r (paired_snoc t h)
theorem ok_bas {f fL : Addr} {fd fdL : FuncData} {k : Nat} (F : Fun K "basis_of" "basis_of" sBas f fd) (B : Bu mg) (FL : Fun K "left_over" "left_over" sLeft fL fdL) (bL : Binds K fdL ["basis", "mask", "numbers"] []) (gL : mg "left_over" = some (.ref fL)) : FnOk P w K mg base CX0 (k + 2) f fd ["masks"] (spBas K) := by
  have GL : FnOk P w K mg base CX0 (k + 1) fL fdL ["basis", "mask", "numbers"] (spLeft K) := ok_left FL
  refine F.ok scBas (fun vs H Q E h => ?_) (fun cdv A outer s H vs Q E hr h => ?_)
  · obtain ⟨a, ms, rfl, _⟩ := h
    rfl
  · obtain ⟨a, ms, rfl, hS, hz, q⟩ := h
    have hu := hu_of hr
    refine ⟨_, pss_cons (ps_set (i := 1) scBas.nd rfl (Or.inl rfl) pe_dnewK)
      (pss_cons (ps_for PassesOwn.never rfl (pi_enum rfl B.enumerate (pa_cons (pv 0) pa_nil)) (pg_tup rfl (pgs_cons (pg_name (i := 2) scBas.nd rfl (.inl rfl)) (pgs_cons (pg_name (i := 3) scBas.nd rfl (.inl rfl)) pgs_nil)))
        (pss_cons (ps_asg (pe_call GL hr (by rfl) gL FL.kp bL .nil pass0 (pa_cons (pv 1) (pa_cons (pv 3) (pa_cons (pe_op op_oneShl pe_int (pv 2)) pa_nil)))) (pg_tup rfl (pgs_cons (pg_name (i := 4) scBas.nd rfl (.inl rfl)) (pgs_cons (pg_name (i := 5) scBas.nd rfl (.inl rfl)) pgs_nil))))
        (pss_one (ps_if (pt_truth (pv 4) (by intro _; rfl)) (pss_one (ps_dput hu (pv 1) (pe_bits (pv 4)) (pe_tup (pa_cons (pv 4) (pa_cons (pv 5) pa_nil))) rfl)) pss_nil))))
      (pss_one (ps_ret (pv 1)))), ?_⟩
    refine fun d hd => ?_
    have e0 : Ex H (upd H d (.dK [])) := Ex.new hd
    refine ⟨.ref a, rfl, a, _, rfl, ex_l e0 hS, ?_⟩
    refine for_it walk_enum (fun i σ' H' => ∃ y2 y3 y4 y5, σ' = [some (.ref a), some (.ref d), y2, y3, y4, y5] ∧ Ex H H' ∧ BasR K H' d (bas (ms.take i))) ⟨none, none, none, none, rfl, e0, [], upd_same, .nil⟩ (fun i σ' H' _ ⟨_, _, _, _, _, e, _⟩ => ex_l e hS) ?_ ?_
    · rintro i x σ' H1 H2 hi ⟨y2, y3, y4, y5, rfl, e1, hB⟩ ⟨T, x1, x2, rfl, hT, eH, t1, t2⟩
      have hil : i < ms.length := by simpa using hi
      have t1 : V.int (i : Int) = x1 := Option.some.inj t1
      have t2' : ((ofN ms).map V.int)[i]? = some x2 := t2
      rw [List.getElem?_map, List.getElem?_map, List.getElem?_eq_getElem hil] at t2'
      have t3 : V.int (ms[i] : Int) = x2 := Option.some.inj t2'
      subst t1 t3 eH
      have e2 : Ex H1 (upd H1 T (.tup [.int (i : Int), .int (ms[i] : Int)])) := Ex.new hT
      generalize hH2 : upd H1 T (.tup [.int (i : Int), .int (ms[i] : Int)]) = H2 at e2
      have hT2 : H2 T = some (.tup [.int (i : Int), .int (ms[i] : Int)]) := by rw [← hH2]; exact upd_same
      refine ⟨T, _, rfl, st_of hT2, rfl, _, _, rfl, _, _, rfl, rfl, ?_⟩
      have hB2 := hB.up e2
      refine ⟨.ref d, rfl, .int (ms[i] : Int), rfl, .int (i : Int), rfl, i, rfl, rfl, by omega, ?_⟩
      refine ⟨d, ms[i], 2 ^ i, bas (ms.take i), (by rw [PySem.W.kbt_cast]; rfl), hB2, good_bas _, fun p H3 hp e3 h3 => ?_⟩
      refine ⟨p, _, rfl, st_of h3, rfl, _, _, rfl, _, _, rfl, rfl, ?_⟩
      refine ⟨.int ((left (bas (ms.take i)) ms[i] (2 ^ i)).1 : Int), rfl, _, rfl, ?_⟩
      have hnext : bas (ms.take (i + 1)) = addTo (bas (ms.take i)) i ms[i] := by
        rw [List.take_add_one, List.getElem?_eq_getElem hil]
        show bas (ms.take i ++ [ms[i]]) = _
        rw [bas_snoc, List.length_take, Nat.min_eq_left (by omega)]
      have hB3 := hB2.up e3
      by_cases hz0 : (left (bas (ms.take i)) ms[i] (2 ^ i)).1 = 0
      · have eb : (((left (bas (ms.take i)) ms[i] (2 ^ i)).1 : Int) != 0) = false := by rw [hz0]; rfl
        rw [eb]
        refine iteF ?_
        refine ⟨_, _, _, _, rfl, (e1.trans e2).trans e3, ?_⟩
        rw [hnext]
        unfold addTo
        rw [if_pos hz0]
        exact hB3
      · have eb : (((left (bas (ms.take i)) ms[i] (2 ^ i)).1 : Int) != 0) = true := by
          rw [bne_iff_ne]
          intro z
          exact hz0 (by omega)
        rw [eb]
        refine iteT ?_
        obtain ⟨kvs, hk, hP⟩ := hB3
        have hlk := left_stop (good_bas (ms.take i)) ms[i] (2 ^ i)
        have hv := bas_val (K := K) (H := H3) (bl (left (bas (ms.take i)) ms[i] (2 ^ i)).1) hP
        rw [hlk] at hv
        have hv : valV kvs (Sum.inl ((bl (left (bas (ms.take i)) ms[i] (2 ^ i)).1 : Nat) : Int) : Key) = none := hv
        refine ⟨_, rfl, _, rfl, by show 2 ≤ sizeLine; decide, fun t ht => ?_⟩
        have e4 : Ex H3 (upd H3 t (.tup [.int ((left (bas (ms.take i)) ms[i] (2 ^ i)).1 : Int), .int ((left (bas (ms.take i)) ms[i] (2 ^ i)).2 : Int)])) := Ex.new ht
        have hlen : kvs.length < sizeLine := by
          have h1 : kvs.length = (bas (ms.take i)).length := Paired.length hP
          have h2 := len_bas (ms.take i)
          rw [List.length_take] at h2
          exact sz_lt (by omega)
        refine ⟨.ref d, rfl, _, rfl, _, rfl, d, _, rfl, DPut.k (k := Sum.inl ((Builtin.Int.intBits ((left (bas (ms.take i)) ms[i] (2 ^ i)).1 : Int) : Nat) : Int)) (e4 d _ hk) hlen, ?_⟩
        rw [bits_bl, putK_new _ hv]
        have e5 : Ex H (upd (upd H3 t (.tup [.int ((left (bas (ms.take i)) ms[i] (2 ^ i)).1 : Int), .int ((left (bas (ms.take i)) ms[i] (2 ^ i)).2 : Int)])) d (.dK (kvs ++ [(Sum.inl ((bl (left (bas (ms.take i)) ms[i] (2 ^ i)).1 : Nat) : Int), .ref t)]))) := Ex.mut (((e1.trans e2).trans e3).trans e4) hd
        refine ⟨_, _, _, _, rfl, e5, kvs ++ [(Sum.inl ((bl (left (bas (ms.take i)) ms[i] (2 ^ i)).1 : Nat) : Int), .ref t)], upd_same, ?_⟩
        rw [hnext]
        unfold addTo
        rw [if_neg hz0]
        have ntd : t ≠ d := fun z => by rw [z, hk] at ht; cases ht
        have up1 : Paired (RowR K (upd H3 t (.tup [.int ((left (bas (ms.take i)) ms[i] (2 ^ i)).1 : Int), .int ((left (bas (ms.take i)) ms[i] (2 ^ i)).2 : Int)]))) kvs (bas (ms.take i)) := rows_up e4 hP
        have keep : ∀ u xs (o : HO), SqT K (upd H3 t o) u xs → ∀ o', (upd H3 t o) d = some (.dK kvs) → SqT K (upd (upd H3 t o) d o') u xs := fun u xs o h o' hd' => by
          rcases h with (h | ⟨ob, h⟩) | h
          · have : u ≠ d := ne_of h hd' (by intro z; cases z)
            exact .inl (.inl (by rw [upd_ne this]; exact h))
          · have : u ≠ d := ne_of h hd' (by intro z; cases z)
            exact .inl (.inr ⟨ob, by rw [upd_ne this]; exact h⟩)
          · exact .inr h
        have hdd : (upd H3 t (.tup [.int ((left (bas (ms.take i)) ms[i] (2 ^ i)).1 : Int), .int ((left (bas (ms.take i)) ms[i] (2 ^ i)).2 : Int)])) d = some (.dK kvs) := e4 d _ hk
        refine paired_snoc (L2.Paired.mapP up1 fun _ _ ⟨z1, u, z2, z3⟩ => ⟨z1, u, z2, keep u _ _ z3 _ hdd⟩) ⟨rfl, t, rfl, keep t _ _ (st_of upd_same) _ hdd⟩
    · rintro σ' H' ⟨y2, y3, y4, y5, rfl, e1, hB⟩
      have : (ms.take ((ofN ms).map V.int).length) = ms := by
        rw [List.length_map, List.length_map, List.take_length]
      rw [this] at hB
      exact ⟨.ref d, rfl, q d H' hd e1 hB⟩
end
end KS
namespace KS
open PySem PySem.Spec PyProof.Rows L2 KR KM Evl
/-! ### readings opened -/
theorem q_as {te : TE} {g : TG} {u : TS} {D : Ends} {σ : L2.St} {H : Hp} (h : te σ H (fun x H1 => g x σ H1 (u D))) : tSeq (tAsg te g) u D σ H := h
theorem s_as {te : TE} {g : TG} {D : Ends} {σ : L2.St} {H : Hp} (h : te σ H (fun x H1 => g x σ H1 D.nx)) : tAsg te g D σ H := h
theorem s_re {te : TE} {D : Ends} {σ : L2.St} {H : Hp} (h : te σ H D.rt) : tRet te D σ H := h
theorem c_op {sp : Sp} {dvs : List V} {E : XK} {t : TA} {σ : L2.St} {H : Hp} {Q : VK} (h : t σ H (fun vs H1 => sp (vs ++ dvs) H1 Q E)) : tCall sp dvs E t σ H Q := h
theorem cb_op {r : List V → Hp → VK → Prop} {t : TA} {σ : L2.St} {H : Hp} {Q : VK} (h : t σ H (fun vs H1 => r vs H1 Q)) : tCB r t σ H Q := h
theorem a_op {te : TE} {t : TA} {σ : L2.St} {H : Hp} {Q : List V → Hp → Prop} (h : te σ H (fun x H1 => t σ H1 fun xs H2 => Q (x :: xs) H2)) : tCons te t σ H Q := h
theorem l_op {t : TA} {σ : L2.St} {H : Hp} {Q : VK} (h : t σ H fun xs H1 => xs.length ≤ sizeLine ∧ ∀ p, H1 p = none → Q (.ref p) (upd H1 p (.lst xs))) : tLst t σ H Q := h
theorem th_op {te : TE} {k : V → Hp → VK → Prop} {σ : L2.St} {H : Hp} {Q : VK} (h : te σ H (fun x H1 => k x H1 Q)) : tThen te k σ H Q := h
theorem q_if0 {c : TT} {t u v : TS} {D : Ends} {σ : L2.St} {H : Hp} (h : c σ H fun b H1 => if b = true then t { D with nx := v D } σ H1 else u { D with nx := v D } σ H1) : tSeq (tIfS c t u) v D σ H := h
theorem s_if0 {c : TT} {t u : TS} {D : Ends} {σ : L2.St} {H : Hp} (h : c σ H fun b H1 => if b = true then t D σ H1 else u D σ H1) : tIfS c t u D σ H := h
/-! ### comprehensions by what their items are worth -/
section
variable {K : PySem.W.Frag} {σ : L2.St} {H : Hp}
/-- a dict comprehension over what is walked -/
theorem dc_it {J : It} {n : Nat} {G : Hp → Prop} {Y : Nat → Hp → V → Hp → Prop} (w : Walk J n G Y) {g : TG} {tt : TT} {tk tv : TE} {vs : List Nat} {D : Addr} {Qd : Hp → Prop} (Pv : Nat → Hp → Prop) (h0 : Pv 0 (upd H D (.dK []))) (hG : ∀ i H, i ≤ n → Pv i H → G H)
    (hs : ∀ i x H H', i < n → Pv i H → Y i H x H' → g x (wipe σ vs) H' fun σ2 H2 => wipe σ2 vs = wipe σ vs ∧ tt σ2 H2 fun b H3 =>
      if b = true then tk σ2 H3 fun y H4 => tv σ2 H4 fun z H5 => ∃ kvs k, y = kV k ∧ H5 D = some (.dK kvs) ∧ kvs.length < sizeLine ∧ Pv (i + 1) (upd H5 D (.dK (putK kvs k z))) else Pv (i + 1) H3) (hd : ∀ H, Pv n H → Qd H) :
    ∃ W : Nat → Nat → Hp → Prop, (∃ m, W 0 m (upd H D (.dK []))) ∧ ∀ i m H, W i m H →
      (J.stop i H ∧ Qd H) ∨ (J.go i H ∧ ∃ Nx : Hp → Prop, (∀ H', Nx H' → ∃ m', m' < m ∧ W (i + 1) m' H') ∧ ∀ x H', J.yld i H x H' → g x (wipe σ vs) H' fun σ2 H2 => wipe σ2 vs = wipe σ vs ∧ tt σ2 H2 fun b H3 =>
        if b = true then tk σ2 H3 fun y H4 => tv σ2 H4 fun z H5 => ∃ kvs k, y = kV k ∧ H5 D = some (.dK kvs) ∧ kvs.length < sizeLine ∧ Nx (upd H5 D (.dK (putK kvs k z))) else Nx H3) := by
  refine ⟨fun i m H => m + i = n ∧ Pv i H, ⟨n, rfl, h0⟩, fun i m H ⟨hm, p⟩ => ?_⟩
  have hq := hG i H (by omega) p
  rcases Nat.lt_or_ge i n with hlt | hge
  · exact .inr ⟨w.goes i H hlt hq, Pv (i + 1), fun H' p' => ⟨m - 1, by omega, by omega, p'⟩, fun x H' y => hs i x H H' hlt p (w.yields i H x H' hlt hq y)⟩
  · obtain rfl : i = n := by omega
    exact .inl ⟨w.stops H hq, hd H p⟩
theorem p_take {α β : Type} {F : α → β → Prop} {vs : List α} {ys : List β} {i : Nat} {v : α} {y : β} (h : Paired F vs (ys.take i)) (hy : ys[i]? = some y) (hv : F v y) : Paired F (vs ++ [v]) (ys.take (i + 1)) := by
  rw [List.take_add_one, hy]
  exact paired_snoc h hv
/-- a new object, told by G -/
def EvF {β : Type} (G : HO → β → Prop) (te : TE) (σ : L2.St) (H : Hp) (y : β) : Prop := ∀ H1, Ex H H1 → ∀ Q : VK, (∀ a o H2, H1 a = none → Ex H1 H2 → H2 a = some o → G o y → Q (.ref a) H2) → te σ H1 Q
def Ob {β : Type} (G : HO → β → Prop) (H : Hp) (v : V) (y : β) : Prop := ∃ a o, v = .ref a ∧ H a = some o ∧ G o y
theorem Ob.up {β : Type} {G : HO → β → Prop} {H H' : Hp} {v : V} {y : β} (e : Ex H H') (h : Ob G H v y) : Ob G H' v y := let ⟨a, o, x, b, c⟩ := h; ⟨a, o, x, e a o b, c⟩
def Co {β : Type} (G : HO → β → Prop) (H : Hp) (ys : List β) (D : Addr) (i : Nat) (H' : Hp) : Prop := H D = none ∧ Ex H H' ∧ ∃ vs, H' D = some (.lst vs) ∧ Paired (fun v y => ∃ a o, v = .ref a ∧ a ≠ D ∧ H' a = some o ∧ G o y) vs (ys.take i)
theorem co_turn {β : Type} {G : HO → β → Prop} {H H' : Hp} {ys : List β} {D : Addr} {i : Nat} {te : TE} {σ2 : L2.St} {y : β} (hy : ys[i]? = some y) (hz : ys.length ≤ 50000) (p : Co G H ys D i H') (h : EvF G te σ2 H y) :
    tYes σ2 H' fun b H3 => if b = true then te σ2 H3 fun v H4 => ∃ acc, H4 D = some (.lst acc) ∧ acc.length < sizeLine ∧ Co G H ys D (i + 1) (upd H4 D (.lst (acc ++ [v]))) else Co G H ys D (i + 1) H3 := by
  obtain ⟨p1, p2, vs, p3, p4⟩ := p
  show te σ2 H' fun v H4 => ∃ acc, H4 D = some (.lst acc) ∧ acc.length < sizeLine ∧ Co G H ys D (i + 1) (upd H4 D (.lst (acc ++ [v])))
  refine h H' p2 _ fun a o H4 ha e4 ho hg => ⟨vs, e4 D _ p3, ?_, p1, Ex.mut (p2.trans e4) p1, vs ++ [.ref a], upd_same, ?_⟩
  · have l1 := Paired.length p4
    rw [List.length_take] at l1
    have l2 := (List.getElem?_eq_some_iff.mp hy).1
    exact sz_lt (by omega)
  · have hne : a ≠ D := fun z => by rw [z, p3] at ha; cases ha
    refine p_take (L2.Paired.mapP p4 fun v z ⟨b, u, c1, c2, c3, c4⟩ => ⟨b, u, c1, c2, ?_, c4⟩) hy ⟨a, o, rfl, hne, ?_, hg⟩
    · rw [upd_ne c2]
      exact e4 b u c3
    · rw [upd_ne hne]
      exact ho
theorem Co.end_ {β : Type} {G : HO → β → Prop} {H H' : Hp} {ys : List β} {D : Addr} (p : Co G H ys D ys.length H') : Ex H H' ∧ ∃ vs, H' D = some (.lst vs) ∧ Paired (Ob G H') vs ys := by
  obtain ⟨_, p2, vs, p3, p4⟩ := p
  rw [List.take_length] at p4
  exact ⟨p2, vs, p3, L2.Paired.mapP p4 fun v y ⟨a, o, c1, _, c3, c4⟩ => ⟨a, o, c1, c3, c4⟩⟩
theorem Co.start {β : Type} {G : HO → β → Prop} {H : Hp} {ys : List β} {D : Addr} (h : H D = none) : Co G H ys D 0 (upd H D (.lst [])) := ⟨h, Ex.new h, [], upd_same, .nil⟩
/-- a new list of new objects -/
def EvO' {β : Type} (G : HO → β → Prop) (te : TE) (σ : L2.St) (H : Hp) (ys : List β) : Prop := ∀ H1, Ex H H1 → ∀ Q : VK, (∀ p vs H2, H1 p = none → Ex H1 H2 → H2 p = some (.lst vs) → Paired (Ob G H2) vs ys → Q (.ref p) H2) → te σ H1 Q
/-- over a list or tuple: each item a new object -/
theorem eo_lcSq {β : Type} {G : HO → β → Prop} {a : Addr} {xs : List V} {tl te : TE} {j : Nat} {vs : List Nat} (ys : List β) (hl : xs.length = ys.length) (h : Ev tl σ H (.ref a)) (hx : Sq K H a xs) (hz : ys.length ≤ 40000) (hw : ∀ x, wipe ((wipe σ vs).set j (some x)) vs = wipe σ vs)
    (he : ∀ (i : Nat) (x : V) (y : β) H1, Ex H H1 → xs[i]? = some x → ys[i]? = some y → EvF G te ((wipe σ vs).set j (some x)) H1 y) : EvO' G (tLc (iSeq K tl) (gName j) tYes te vs) σ H ys := fun H0 e Q q => h H0 e _ fun H1 e1 => ⟨a, rfl, by
  have turn : ∀ (D : Addr) i x H', xs[i]? = some x → Co G H1 ys D i H' → gName j x (wipe σ vs) H' fun σ2 H2 => wipe σ2 vs = wipe σ vs ∧ tYes σ2 H2 fun b H3 =>
      if b = true then te σ2 H3 fun y H4 => ∃ acc, H4 D = some (.lst acc) ∧ acc.length < sizeLine ∧ Co G H1 ys D (i + 1) (upd H4 D (.lst (acc ++ [y]))) else Co G H1 ys D (i + 1) H3 := fun D i x H' hi p => by
    have hi2 : i < ys.length := by
      have := (List.getElem?_eq_some_iff.mp hi).1
      omega
    exact ⟨hw x, co_turn (List.getElem?_eq_getElem hi2) (by omega) p (he i x _ H1 (e.trans e1) hi (List.getElem?_eq_getElem hi2))⟩
  have fin : ∀ (D : Addr), H1 D = none → ∀ H', Co G H1 ys D xs.length H' → Q (.ref D) H' := fun D hD H' p => by
    rw [hl] at p
    obtain ⟨p2, vs', p3, p4⟩ := p.end_
    exact q D vs' H' (fresh_back e1 hD) (e1.trans p2) p3 p4
  rcases hx with hx | hx
  · exact .inl ⟨xs, ex_l (e.trans e1) hx, fun D hD => lc_it walk_list (Co G H1 ys D) (Co.start hD) (fun i H' _ p => ex_l ((e.trans e1).trans p.2.1) hx) (fun i x H' H'' hi p ⟨e2, hi2⟩ => by subst e2; exact turn D i x _ hi2 p) (fin D hD)⟩
  · exact .inr ⟨xs, ex_t (e.trans e1) hx, fun D hD => lc_it walk_tup (Co G H1 ys D) (Co.start hD) (fun i H' _ p => ex_t ((e.trans e1).trans p.2.1) hx) (fun i x H' H'' hi p ⟨e2, hi2⟩ => by subst e2; exact turn D i x _ hi2 p) (fin D hD)⟩⟩
/-- over a list or tuple: which items, and what each is worth -/
theorem el_lcSq {a : Addr} {xs : List V} {tl te : TE} {t : TT} {j : Nat} {vs : List Nat} (f : Nat → Bool) (v : Nat → V) (h : Ev tl σ H (.ref a)) (hx : Sq K H a xs) (hz : xs.length ≤ 40000) (hw : ∀ x, wipe ((wipe σ vs).set j (some x)) vs = wipe σ vs)
    (ht : ∀ (i : Nat) (x : V) H1, Ex H H1 → xs[i]? = some x → EvT t ((wipe σ vs).set j (some x)) H1 (f i)) (he : ∀ (i : Nat) (x : V) H1, Ex H H1 → xs[i]? = some x → f i = true → Ev te ((wipe σ vs).set j (some x)) H1 (v i)) :
    EvL (tLc (iSeq K tl) (gName j) t te vs) σ H (given xs.length f v) := fun H0 e Q q => h H0 e _ fun H1 e1 => ⟨a, rfl, by
  have turn : ∀ (D : Addr) i x H', xs[i]? = some x → Cw H1 f v D i H' → gName j x (wipe σ vs) H' fun σ2 H2 => wipe σ2 vs = wipe σ vs ∧ t σ2 H2 fun b H3 =>
      if b = true then te σ2 H3 fun y H4 => ∃ acc, H4 D = some (.lst acc) ∧ acc.length < sizeLine ∧ Cw H1 f v D (i + 1) (upd H4 D (.lst (acc ++ [y]))) else Cw H1 f v D (i + 1) H3 := fun D i x H' hi p =>
    ⟨hw x, cw_turn p (by have := (List.getElem?_eq_some_iff.mp hi).1; omega) (ht i x H1 (e.trans e1) hi) (he i x H1 (e.trans e1) hi)⟩
  have fin : ∀ (D : Addr), H1 D = none → ∀ H', Cw H1 f v D xs.length H' → Q (.ref D) H' := fun D hD H' p => q D H' (fresh_back e1 hD) (e1.trans p.2.1) p.2.2
  rcases hx with hx | hx
  · exact .inl ⟨xs, ex_l (e.trans e1) hx, fun D hD => lc_it walk_list (Cw H1 f v D) ⟨hD, Ex.new hD, upd_same⟩ (fun i H' _ p => ex_l ((e.trans e1).trans p.2.1) hx) (fun i x H' H'' hi p ⟨e2, hi2⟩ => by subst e2; exact turn D i x _ hi2 p) (fin D hD)⟩
  · exact .inr ⟨xs, ex_t (e.trans e1) hx, fun D hD => lc_it walk_tup (Cw H1 f v D) ⟨hD, Ex.new hD, upd_same⟩ (fun i H' _ p => ex_t ((e.trans e1).trans p.2.1) hx) (fun i x H' H'' hi p ⟨e2, hi2⟩ => by subst e2; exact turn D i x _ hi2 p) (fin D hD)⟩⟩
theorem et_yes {σ : L2.St} {H : Hp} : EvT tYes σ H true := fun H1 _ _ q => q H1 (Ex.refl H1)
theorem given_all {n : Nat} {v : Nat → V} {l : List V} (h : n = l.length) (hv : ∀ i x, l[i]? = some x → v i = x) : given n (fun _ => true) v = l := by
  unfold given
  rw [List.filter_eq_self.mpr (fun _ _ => rfl)]
  refine List.ext_getElem? fun i => ?_
  rw [List.getElem?_map]
  by_cases hi : i < n
  · rw [List.getElem?_range hi]
    obtain ⟨x, hx⟩ : ∃ x, l[i]? = some x := ⟨l[i]'(by omega), List.getElem?_eq_getElem (by omega)⟩
    rw [hx]
    exact congrArg some (hv i x hx)
  · rw [List.getElem?_eq_none (l := List.range n) (by simpa using hi), List.getElem?_eq_none (l := l) (by omega)]
    rfl
end
end KS
namespace KS
open PySem PySem.Spec PyProof.Rows L2 KR KM Evl StX
/-- a def of the text, where it stands, how its arguments bind -/
structure FnA (K : PySem.W.Frag) (mg : Str → Option Value) (x : Str) (st : Stmt) (ps : List Str) where
  f : Addr
  fd : FuncData
  F : Fun K x x st f fd
  b : L2.Binds K fd ps []
  g : mg x = some (.ref f)
section
variable {K : PySem.W.Frag} {σ : L2.St} {H : Hp}
def EvS (K : PySem.W.Frag) (te : TE) (σ : L2.St) (H : Hp) (xs : List V) : Prop := ∀ H1, Ex H H1 → ∀ Q : VK, (∀ r H2, Ex H1 H2 → SqL K H2 r xs → Q (.ref r) H2) → te σ H1 Q
theorem EvL.s {te : TE} {xs : List V} (h : EvL te σ H xs) : EvS K te σ H xs := fun H1 e Q q => h H1 e Q fun p H2 _ e2 hp => q p H2 e2 (sq_of hp)
theorem ev_s {te : TE} {xs : List V} {a : Addr} (h : Ev te σ H (.ref a)) (hx : SqL K H a xs) : EvS K te σ H xs := fun H1 e Q q => h H1 e Q fun H2 e2 => q a H2 e2 (ex_l (e.trans e2) hx)
/-- numbers_in([*lots, lot]) -/
theorem el_num {i j : Nat} {a : Addr} {xs : List V} {ls : List (List Int)} {lot : List Int} {v : V} {E : XK} (h0 : σ[i]? = some (some (.ref a))) (h1 : σ[j]? = some (some v)) (hS : Sq K H a xs) (hP : LotsP K H xs ls) (hL : LotR K H v lot)
    (hz : ls.flatten.length + lot.length ≤ 5000) (hx : ls.length ≤ 400) (h64 : (marks ls lot).length < 64) :
    EvL (tCall (spNum K) [] E (tCons (tLst (tStar K (tVar i) (tCons (tVar j) tNil))) tNil)) σ H ((marks ls lot).map V.int) := by
  intro H1 e Q q
  have hl : xs.length = ls.length := Paired.length hP
  refine ⟨.ref a, h0, a, xs, rfl, (hS.up e).symm, v, h1, ?_, fun p hp => ?_⟩
  · show (xs ++ [v]).length ≤ sizeLine
    rw [List.length_append]
    exact sz_of (by simp; omega)
  · have e2 : Ex H1 (upd H1 p (.lst (xs ++ [v]))) := Ex.new hp
    have ef : (ls ++ [lot]).flatten = ls.flatten ++ lot := by simp
    refine ⟨.ref p, ls ++ [lot], rfl, ⟨p, _, rfl, .inl (sq_of upd_same), paired_snoc (lots_up (e.trans e2) hP) (hL.up (e.trans e2))⟩, ?_, ?_, ?_⟩
    · rw [ef, List.length_append]
      exact hz
    · rw [ef]
      exact h64
    · rw [ef]
      exact fun r H2 hr e3 h3 => q r H2 (fresh_back e2 hr) (e2.trans e3) h3
/-- {number: at for at, number in enumerate(..)} -/
theorem ed_places {ta : TE} {i j : Nat} {ms : List Int} (h : EvS K ta σ H (ms.map V.int)) (nd : ms.Nodup) (hz : ms.length ≤ 5000) (hij : i ≠ j) (hi : i < σ.length) (hj : j < σ.length)
    (hw : ∀ x y, wipe (((wipe σ [i, j]).set i (some x)).set j (some y)) [i, j] = wipe σ [i, j]) : ∀ H1, Ex H H1 → ∀ Q : VK, (∀ D H2, H1 D = none → Ex H1 H2 → H2 D = some (.dK (plK ms)) → Q (.ref D) H2) →
    tDc (iEnum K (tCons ta tNil)) (gTup K 2 (gCons (gName i) (gCons (gName j) gNil))) tYes (tVar j) (tVar i) [i, j] σ H1 Q := by
  intro H1 e Q q
  refine h H1 e _ fun r H2 e2 hr => ⟨r, _, rfl, hr, fun D hD => ?_⟩
  refine dc_it walk_enum (fun n H3 => Ex H2 H3 ∧ H3 D = some (.dK (plK (ms.take n)))) ⟨Ex.new hD, upd_same⟩ (fun n H3 _ p => ex_l p.1 hr) ?_ ?_
  · rintro n x H3 H4 hn ⟨e3, hd3⟩ ⟨T, x1, x2, rfl, hT, rfl, t1, t2⟩
    have hn2 : n < ms.length := by simpa using hn
    have t1 : V.int (n : Int) = x1 := Option.some.inj t1
    have t2 : (ms.map V.int)[n]? = some x2 := t2
    rw [List.getElem?_map, List.getElem?_eq_getElem hn2] at t2
    have t3 : V.int ms[n] = x2 := Option.some.inj t2
    subst t1 t3
    have e4 : Ex H3 (upd H3 T (.tup [.int (n : Int), .int ms[n]])) := Ex.new hT
    have hd4 := e4 D _ hd3
    refine ⟨T, _, rfl, st_of upd_same, rfl, _, _, rfl, _, _, rfl, rfl, hw _ _, ?_⟩
    have l1 : (((wipe σ [i, j]).set i (some (V.int (n : Int)))).set j (some (V.int ms[n])))[j]? = some (some (V.int ms[n])) := by
      rw [List.getElem?_set_self (by rw [List.length_set, wipe_length]; exact hj)]
    have l2 : (((wipe σ [i, j]).set i (some (V.int (n : Int)))).set j (some (V.int ms[n])))[i]? = some (some (V.int (n : Int))) := by
      rw [List.getElem?_set_ne hij.symm, List.getElem?_set_self (by rw [wipe_length]; exact hi)]
    refine ⟨_, l1, _, l2, plK (ms.take n), Sum.inl ms[n], rfl, hd4, ?_, Ex.mut (e3.trans e4) hD, ?_⟩
    · rw [plK_len, List.length_take]
      exact sz_lt (by omega)
    · have hnew : ¬ ms[n] ∈ ms.take n := fun z => by
        obtain ⟨k, hk⟩ := List.getElem?_of_mem z
        rw [List.getElem?_take] at hk
        split at hk
        · have := nd_ix nd hk (List.getElem?_eq_getElem hn2)
          omega
        · cases hk
      have hp := plK_snoc (ms.take n) ms[n] hnew
      rw [List.length_take, Nat.min_eq_left (by omega)] at hp
      rw [upd_same, hp, List.take_add_one, List.getElem?_eq_getElem hn2]
      rfl
  · rintro H3 ⟨e3, hd3⟩
    rw [List.length_map, List.take_length] at hd3
    exact q D H3 (fresh_back e2 hD) (e2.trans e3) hd3
/-- mask_of(told, places) -/
theorem ev_mask {i j : Nat} {d : Addr} {v : V} {lot ms : List Int} {E : XK} (h0 : σ[i]? = some (some v)) (h1 : σ[j]? = some (some (.ref d))) (hL : LotR K H v lot) (hD : H d = some (.dK (plK ms))) (nd : ms.Nodup) (hm : ms.length ≤ 500) (hz : lot.length ≤ 5000) (hs : ∀ x ∈ lot, x ∈ ms) :
    Ev (tCall (spMask K) [] E (tCons (tVar i) (tCons (tVar j) tNil))) σ H (.int (mk ms lot : Int)) := fun H1 e Q q =>
  ⟨v, h0, .ref d, h1, v, d, lot, ms, rfl, hL.up e, e d _ hD, nd, hm, hz, hs, fun H2 e2 => q H2 e2⟩
/-- [mask_of(told, places) for told in lots] -/
theorem el_masks {n i j : Nat} {a d : Addr} {xs : List V} {ls : List (List Int)} {ms : List Int} {E : XK} (h0 : σ[i]? = some (some (.ref a))) (h1 : (wipe σ [n])[j]? = some (some (.ref d))) (hnj : n ≠ j) (hn : n < σ.length) (hS : Sq K H a xs) (hP : LotsP K H xs ls) (hD : H d = some (.dK (plK ms))) (nd : ms.Nodup) (hm : ms.length ≤ 500)
    (hz : ∀ l ∈ ls, l.length ≤ 5000) (hx : ls.length ≤ 400) (hs : ∀ l ∈ ls, ∀ x ∈ l, x ∈ ms) (hw : ∀ x, wipe ((wipe σ [n]).set n (some x)) [n] = wipe σ [n]) :
    EvL (tLc (iSeq K (tVar i)) (gName n) tYes (tCall (spMask K) [] E (tCons (tVar n) (tCons (tVar j) tNil))) [n]) σ H ((ofN (ls.map (mk ms))).map V.int) := by
  have hl : xs.length = ls.length := Paired.length hP
  have hg : given xs.length (fun _ => true) (fun k => V.int ((mk ms (ls.getD k []) : Nat) : Int)) = (ofN (ls.map (mk ms))).map V.int := given_all (by simp [hl]) fun k x hk => by
    rw [List.getElem?_map, List.getElem?_map, List.getElem?_map] at hk
    cases e : ls[k]? with
    | none => rw [e] at hk; cases hk
    | some l =>
      rw [e] at hk
      rw [List.getD_eq_getElem?_getD, e]
      exact Option.some.inj hk
  rw [← hg]
  refine el_lcSq (fun _ => true) _ (ev_var h0) hS (by omega) hw (fun _ _ _ _ _ => et_yes) fun k x H1 e hk _ => ?_
  obtain ⟨l, hl2, hR⟩ := pget hP hk
  have hm2 := List.mem_of_getElem? hl2
  have el : ls.getD k [] = l := by
    rw [List.getD_eq_getElem?_getD, hl2]
    rfl
  show Ev _ _ _ (V.int ((mk ms (ls.getD k []) : Nat) : Int))
  rw [el]
  refine ev_mask (by rw [List.getElem?_set_self (by rw [wipe_length]; exact hn)]) (by rw [List.getElem?_set_ne hnj]; exact h1) (hR.up e) (e d _ hD) nd hm (hz l hm2) (hs l hm2)
end
/-! ### sum_numbers -/
section
variable {P : Program} {w : World} {K : PySem.W.Frag} {mg : Str → Option Value} {base : Heap}
abbrev sSN : Stmt := topS 7
theorem scSN : FnScope ["lots", "lot", "places", "basis", "left", "numbers", "at", "number", "told"] ["lots", "lot"] (defScope sSN) := ⟨rfl, rfl, rfl, by decide +kernel, rfl, by decide +kernel, by decide +kernel⟩
structure PrA (K : PySem.W.Frag) (mg : Str → Option Value) where
  num : FnA K mg "numbers_in" sNum ["lots"]
  mask : FnA K mg "mask_of" sMask ["lot", "places"]
  bits : FnA K mg "bits_of" sBits ["mask"]
  left : FnA K mg "left_over" sLeft ["basis", "mask", "numbers"]
  bas : FnA K mg "basis_of" sBas ["masks"]
structure Fits (ls : List (List Int)) (lot : List Int) : Prop where
  sum : ls.flatten.length + lot.length ≤ 2000
  len : ls.length ≤ 400
  few : (marks ls lot).length < 64
theorem Fits.each {ls : List (List Int)} {lot : List Int} (h : Fits ls lot) : ∀ l ∈ ls, l.length ≤ 5000 := fun l hl => by
  obtain ⟨i, hi⟩ := List.getElem?_of_mem hl
  have h1 := flat_get_le hi
  rw [List.length_append] at h1
  have := h.sum
  omega
theorem marks_nd (ls : List (List Int)) (lot : List Int) : (marks ls lot).Nodup := (asc_pw _).imp fun h => by omega
theorem left_lt (ls : List (List Int)) (lot : List Int) : (leftL ls lot).2 < 2 ^ ls.length := by
  have tb := told_bas (ls.map (mk (marks ls lot)))
  exact left_ind (B := basL ls lot) (P := fun _ n => n < 2 ^ ls.length) (fun a n e he p => by
    have o := (tb e he).2
    rw [List.length_map] at o
    exact Nat.xor_lt_two_pow p o) (m := mk (marks ls lot) lot) (n := 0) (Nat.two_pow_pos _)
def RetO (o : Option (List Int)) (H : Hp) (Q : VK) : Prop := match o with
  | none => ∀ H2, Ex H H2 → Q .non H2
  | some l => RetT l H Q
def spSN (K : PySem.W.Frag) : Sp := fun vs H Q _ => ∃ (v v2 : V) (ls : List (List Int)) (lot : List Int), vs = [v, v2] ∧ LotsR K H v ls ∧ LotR K H v2 lot ∧ Fits ls lot ∧ RetO ((sumF ls lot).map ofN) H Q
theorem ok_sn {f : Addr} {fd : FuncData} {k : Nat} (F : Fun K "sum_numbers" "sum_numbers" sSN f fd) (B : Bu mg) (A_ : PrA K mg) : FnOk P w K mg base CX0 (k + 3) f fd ["lots", "lot"] (spSN K) := by
  have GN : FnOk P w K mg base CX0 (k + 1) A_.num.f A_.num.fd ["lots"] (spNum K) := ok_num A_.num.F B
  have GM : FnOk P w K mg base CX0 (k + 1) A_.mask.f A_.mask.fd ["lot", "places"] (spMask K) := ok_mask A_.mask.F B
  have GT : FnOk P w K mg base CX0 (k + 1) A_.bits.f A_.bits.fd ["mask"] (spBits K) := ok_bits A_.bits.F B
  have GL : FnOk P w K mg base CX0 (k + 1) A_.left.f A_.left.fd ["basis", "mask", "numbers"] (spLeft K) := ok_left A_.left.F
  have GB : FnOk P w K mg base CX0 (k + 2) A_.bas.f A_.bas.fd ["masks"] (spBas K) := ok_bas A_.bas.F B A_.left.F A_.left.b A_.left.g
  refine F.ok scSN (fun vs H Q E h => ?_) (fun cdv A outer s H vs Q E hr h => ?_)
  · obtain ⟨v, v2, ls, lot, rfl, _⟩ := h
    rfl
  · obtain ⟨v, v2, ls, lot, rfl, hLs, hL, fit, q⟩ := h
    obtain ⟨a, xs, rfl, hS, hP⟩ := hLs
    have hu := hu_of hr
    have hr1 : Room (k + 1) _ := hr.mono (by omega)
    refine ⟨_, pss_cons (ps_set (i := 2) scSN.nd rfl (Or.inr rfl) (pe_dc (own := [("at", 6), ("number", 7)]) (g := gTup K 2 (gCons (gName 6) (gCons (gName 7) gNil))) rfl scSN.nd
          (pi_enum rfl B.enumerate (pa_cons (pe_call GN hr1 (by rfl) A_.num.g A_.num.F.kp A_.num.b .nil pass0 (pa_cons (pe_lst (pa_star (pv 0) (pa_cons (pv 1) pa_nil))) pa_nil)) pa_nil))
          (blkOk_by (N := ["lots", "lot", "places", "basis", "left", "numbers", "at", "number", "told"]) (sc := defScope sSN) (by decide +kernel))
          (fun _ _ _ _ _ => pg_tup rfl (pgs_cons (pg_name (i := 6) scSN.nd rfl (Or.inl rfl)) (pgs_cons (pg_name (i := 7) scSN.nd rfl (Or.inl rfl)) pgs_nil))) (fun _ _ _ _ _ => pts_nil) (fun _ _ _ _ _ => pv 7) (fun _ _ _ _ _ => pv 6)))
      (pss_cons (ps_set (i := 3) scSN.nd rfl (Or.inl rfl) (pe_call GB hr (by rfl) A_.bas.g A_.bas.F.kp A_.bas.b .nil pass0 (pa_cons
          (pe_lc (own := [("told", 8)]) (g := gName 8) rfl scSN.nd (pi_seq (pv 0)) (blkOk_by (N := ["lots", "lot", "places", "basis", "left", "numbers", "at", "number", "told"]) (sc := defScope sSN) (by decide +kernel))
            (fun _ _ _ _ _ => pg_name (i := 8) scSN.nd rfl (Or.inl rfl)) (fun _ _ _ _ _ => pts_nil) (fun _ _ _ _ _ => pe_call GM hr1 (by rfl) A_.mask.g A_.mask.F.kp A_.mask.b .nil pass0 (pa_cons (pv 8) (pa_cons (pv 2) pa_nil)))) pa_nil)))
      (pss_cons (ps_asg (pe_call GL hr1 (by rfl) A_.left.g A_.left.F.kp A_.left.b .nil pass0 (pa_cons (pv 3) (pa_cons (pe_call GM hr1 (by rfl) A_.mask.g A_.mask.F.kp A_.mask.b .nil pass0 (pa_cons (pv 1) (pa_cons (pv 2) pa_nil))) (pa_cons pe_int pa_nil)))) (pg_tup rfl (pgs_cons (pg_name (i := 4) scSN.nd rfl (.inl rfl)) (pgs_cons (pg_name (i := 5) scSN.nd rfl (.inl rfl)) pgs_nil))))
      (pss_one (ps_ret (pe_ifExp (pt_truth (pv 4) (by intro _; rfl)) pe_non (pe_tupleOf rfl B.tuple (pe_call GT hr1 (by rfl) A_.bits.g A_.bits.F.kp A_.bits.b .nil pass0 (pa_cons (pv 5) pa_nil)))))))), ?_⟩
    have hfew := fit.few
    have hsum := fit.sum
    have hlen := fit.len
    refine q_as (ed_places (K := K) (H := H) (σ := [some (.ref a), some v2, none, none, none, none, none, none, none]) (i := 6) (j := 7) (EvL.s (el_num (i := 0) (j := 1) rfl rfl hS hP hL (by omega) hlen hfew)) (marks_nd ls lot) (by omega) (by decide) (by simp) (by simp) (fun _ _ => rfl) H (Ex.refl H) _ fun D H1 hD e1 h1 => ?_)
    refine q_as (c_op (a_op (el_masks (i := 0) (j := 2) (n := 8) (d := D) (ls := ls) rfl rfl (by decide) ?hn (hS.up e1) (lots_up e1 hP) h1 (marks_nd ls lot) (by omega) fit.each hlen (fun l hl x hx => mem_marks.mpr (.inl ⟨l, hl, hx⟩)) (fun _ => rfl) H1 (Ex.refl H1) _ fun p H2 hp e2 h2 => ?_)))
    case hn => exact (show (8 : Nat) < 9 by decide)
    refine ⟨p, ls.map (mk (marks ls lot)), rfl, sq_of h2, by rw [List.length_map]; omega, fun d H3 hd e3 hB => ?_⟩
    refine ⟨.ref d, rfl, ev_mask (i := 1) (j := 2) (d := D) (lot := lot) rfl rfl (hL.up ((e1.trans e2).trans e3)) ((e2.trans e3) D _ h1) (marks_nd ls lot) (by omega) (by omega) (fun x hx => mem_marks.mpr (.inr hx)) H3 (Ex.refl H3) _ fun H4 e4 => ?_⟩
    refine ⟨d, mk (marks ls lot) lot, 0, basL ls lot, rfl, hB.up e4, good_bas _, fun t H5 ht e5 h5 => ?_⟩
    have e15 : Ex H H5 := (((e1.trans e2).trans e3).trans e4).trans e5
    refine ⟨t, _, rfl, st_of h5, rfl, _, _, rfl, _, _, rfl, rfl, ?_⟩
    refine ⟨.int ((leftL ls lot).1 : Int), rfl, _, rfl, ?_⟩
    by_cases hz : (leftL ls lot).1 = 0
    · have eb : (((leftL ls lot).1 : Int) != 0) = false := by rw [hz]; rfl
      rw [eb]
      refine iteF ?_
      have es : (sumF ls lot).map ofN = some (ofN (KM.bits (leftL ls lot).2)) := by
        unfold sumF
        rw [if_pos hz]
        rfl
      rw [es] at q
      refine ⟨.int ((leftL ls lot).2 : Int), rfl, (leftL ls lot).2, rfl, Nat.lt_of_lt_of_le (left_lt ls lot) (Nat.pow_le_pow_right (by decide) (by omega)), fun p6 H6 hp6 e6 h6 => .inl ⟨p6, _, rfl, sq_of h6, fun r hr => ?_⟩⟩
      exact q r _ (fresh_back (e15.trans e6) hr) ((e15.trans e6).trans (Ex.new hr)) upd_same
    · have eb : (((leftL ls lot).1 : Int) != 0) = true := by
        rw [bne_iff_ne]
        intro z
        exact hz (by omega)
      rw [eb]
      refine iteT ?_
      have es : (sumF ls lot).map ofN = none := by
        unfold sumF
        rw [if_neg hz]
        rfl
      rw [es] at q
      exact q H5 e15
end
end KS
namespace KS
open PySem PySem.Spec PyProof.Rows L2 KR KM Evl StX
section
variable {K : PySem.W.Frag} {σ : L2.St} {H : Hp}
theorem el_lcS {xs : List V} {tl te : TE} {t : TT} {j : Nat} {vs : List Nat} (f : Nat → Bool) (v : Nat → V) (h : EvS K tl σ H xs) (hz : xs.length ≤ 40000) (hw : ∀ x, wipe ((wipe σ vs).set j (some x)) vs = wipe σ vs)
    (ht : ∀ (i : Nat) (x : V) H1, Ex H H1 → xs[i]? = some x → EvT t ((wipe σ vs).set j (some x)) H1 (f i)) (he : ∀ (i : Nat) (x : V) H1, Ex H H1 → xs[i]? = some x → f i = true → Ev te ((wipe σ vs).set j (some x)) H1 (v i)) :
    EvL (tLc (iList K tl) (gName j) t te vs) σ H (given xs.length f v) := fun H0 e Q q => h H0 e _ fun r H1 e1 hr => ⟨r, rfl, ⟨xs, hr⟩, fun D hD =>
  lc_it walk_list (Cw H1 f v D) ⟨hD, Ex.new hD, upd_same⟩ (fun i H' _ p => ex_l p.2.1 hr) (fun i x H' H'' hi p ⟨e2, hi2⟩ => by
    subst e2
    exact ⟨hw x, cw_turn p (by omega) (ht i x H1 (e.trans e1) hi2) (he i x H1 (e.trans e1) hi2)⟩) (fun H' p => q D H' (fresh_back e1 hD) (e1.trans p.2.1) p.2.2)⟩
end
/-! ### barring -/
theorem keys_lt (ls : List (List Int)) (lot : List Int) : ∀ e ∈ basL ls lot, e.1 ≤ (marks ls lot).length := keys_le _ 0 [] (fun e he => by cases he) (fun m hm => by
  obtain ⟨l, _, rfl⟩ := List.mem_map.mp hm
  exact mk_lt _ _) (fun e he => by cases he)
theorem bas_few (ls : List (List Int)) (lot : List Int) : (basL ls lot).length ≤ (marks ls lot).length := by
  have nd := bas_nd (ls.map (mk (marks ls lot)))
  have h := List.Nodup.length_le_of_subset (l₂ := (List.range (marks ls lot).length).map (· + 1)) nd fun x hx => by
    obtain ⟨e, he, rfl⟩ := List.mem_map.mp hx
    have h1 := keys_lt ls lot e he
    have h2 := (good_bas (ls.map (mk (marks ls lot))) e he).2
    exact List.mem_map.mpr ⟨e.1 - 1, List.mem_range.mpr (by omega), by omega⟩
  rw [List.length_map, List.length_map, List.length_range] at h
  exact h
theorem keysL_int (ls : List (List Int)) (lot : List Int) : ofN (keysL ls lot) = asc ((basL ls lot).map fun e => (e.1 : Int)) := by
  unfold keysL
  show List.map Int.ofNat (List.map Int.toNat _) = _
  rw [List.map_map]
  refine (List.map_congr_left (g := id) fun z hz => ?_).trans (List.map_id _)
  rw [mem_asc, List.mem_map] at hz
  obtain ⟨e, _, rfl⟩ := hz
  rfl
theorem rows_keys {K : PySem.W.Frag} {H : Hp} : ∀ {kvs : List (Key × V)} {B : Bas}, Paired (RowR K H) kvs B → kvs.map (·.1) = (B.map fun e => (e.1 : Int)).map Sum.inl
  | _, _, .nil => rfl
  | _, _, .cons r t => by
    rw [List.map_cons, List.map_cons, List.map_cons, rows_keys t, r.1]
theorem barf_take {B : Bas} {ls : List Nat} {f i l : Nat} (h : ls[i]? = some l) : barf B (ls.take (i + 1)) f = barStep B (barf B (ls.take i) f) l := by
  unfold barf
  rw [List.take_add_one, h, List.foldl_append]
  rfl
section
variable {P : Program} {w : World} {K : PySem.W.Frag} {mg : Str → Option Value} {base : Heap}
abbrev sBar : Stmt := topS 8
abbrev nBar : List Str := ["lots", "lot", "marks", "places", "basis", "left", "_", "found", "length", "row", "at", "number", "told"]
theorem scBar : FnScope nBar ["lots", "lot"] (defScope sBar) := ⟨rfl, rfl, rfl, by decide +kernel, rfl, by decide +kernel, by decide +kernel⟩
def spBar (K : PySem.W.Frag) : Sp := fun vs H Q _ => ∃ (v v2 : V) (ls : List (List Int)) (lot : List Int), vs = [v, v2] ∧ LotsR K H v ls ∧ LotR K H v2 lot ∧ Fits ls lot ∧ RetO (barF ls lot) H Q
theorem ok_bar {f : Addr} {fd : FuncData} {k : Nat} (F : Fun K "barring" "barring" sBar f fd) (B : Bu mg) (A_ : PrA K mg) : FnOk P w K mg base CX0 (k + 3) f fd ["lots", "lot"] (spBar K) := by
  have GN : FnOk P w K mg base CX0 (k + 1) A_.num.f A_.num.fd ["lots"] (spNum K) := ok_num A_.num.F B
  have GM : FnOk P w K mg base CX0 (k + 1) A_.mask.f A_.mask.fd ["lot", "places"] (spMask K) := ok_mask A_.mask.F B
  have GT : FnOk P w K mg base CX0 (k + 1) A_.bits.f A_.bits.fd ["mask"] (spBits K) := ok_bits A_.bits.F B
  have GL : FnOk P w K mg base CX0 (k + 1) A_.left.f A_.left.fd ["basis", "mask", "numbers"] (spLeft K) := ok_left A_.left.F
  have GB : FnOk P w K mg base CX0 (k + 2) A_.bas.f A_.bas.fd ["masks"] (spBas K) := ok_bas A_.bas.F B A_.left.F A_.left.b A_.left.g
  refine F.ok scBar (fun vs H Q E h => ?_) (fun cdv A outer s H vs Q E hr h => ?_)
  · obtain ⟨v, v2, ls, lot, rfl, _⟩ := h
    rfl
  · obtain ⟨v, v2, ls, lot, rfl, hLs, hL, fit, q⟩ := h
    obtain ⟨a, xs, rfl, hS, hP⟩ := hLs
    have hu := hu_of hr
    have hr1 : Room (k + 1) _ := hr.mono (by omega)
    refine ⟨_, pss_cons (ps_set (i := 2) scBar.nd rfl (Or.inr rfl) (pe_call GN hr1 (by rfl) A_.num.g A_.num.F.kp A_.num.b .nil pass0 (pa_cons (pe_lst (pa_star (pv 0) (pa_cons (pv 1) pa_nil))) pa_nil)))
      (pss_cons (ps_set (i := 3) scBar.nd rfl (Or.inr rfl) (pe_dc (own := [("at", 10), ("number", 11)]) (g := gTup K 2 (gCons (gName 10) (gCons (gName 11) gNil))) rfl scBar.nd
          (pi_enum rfl B.enumerate (pa_cons (pv 2) pa_nil)) (blkOk_by (N := nBar) (sc := defScope sBar) (by decide +kernel))
          (fun _ _ _ _ _ => pg_tup rfl (pgs_cons (pg_name (i := 10) scBar.nd rfl (Or.inl rfl)) (pgs_cons (pg_name (i := 11) scBar.nd rfl (Or.inl rfl)) pgs_nil))) (fun _ _ _ _ _ => pts_nil) (fun _ _ _ _ _ => pv 11) (fun _ _ _ _ _ => pv 10)))
      (pss_cons (ps_set (i := 4) scBar.nd rfl (Or.inl rfl) (pe_call GB hr (by rfl) A_.bas.g A_.bas.F.kp A_.bas.b .nil pass0 (pa_cons
          (pe_lc (own := [("told", 12)]) (g := gName 12) rfl scBar.nd (pi_seq (pv 0)) (blkOk_by (N := nBar) (sc := defScope sBar) (by decide +kernel))
            (fun _ _ _ _ _ => pg_name (i := 12) scBar.nd rfl (Or.inl rfl)) (fun _ _ _ _ _ => pts_nil) (fun _ _ _ _ _ => pe_call GM hr1 (by rfl) A_.mask.g A_.mask.F.kp A_.mask.b .nil pass0 (pa_cons (pv 12) (pa_cons (pv 3) pa_nil)))) pa_nil)))
      (pss_cons (ps_asg (pe_call GL hr1 (by rfl) A_.left.g A_.left.F.kp A_.left.b .nil pass0 (pa_cons (pv 4) (pa_cons (pe_call GM hr1 (by rfl) A_.mask.g A_.mask.F.kp A_.mask.b .nil pass0 (pa_cons (pv 1) (pa_cons (pv 3) pa_nil))) (pa_cons pe_int pa_nil)))) (pg_tup rfl (pgs_cons (pg_name (i := 5) scBar.nd rfl (.inl rfl)) (pgs_cons (pg_name (i := 6) scBar.nd rfl (.inl rfl)) pgs_nil))))
      (pss_cons (ps_if (pt_not (pt_truth (pv 5) (by intro _; rfl))) (pss_one (ps_ret pe_non)) pss_nil)
      (pss_cons (ps_set (i := 7) scBar.nd rfl (Or.inl rfl) (pe_op op_oneShl pe_int (pe_op op_sub (pe_bits (pv 5)) pe_int)))
      (pss_cons (ps_for PassesOwn.never rfl (pi_list (pe_callB (call_sortedDI rfl) rfl B.sorted boot_sorted (pa_cons (pv 4) pa_nil))) (pg_name (i := 8) scBar.nd rfl (.inl rfl))
        (pss_cons (ps_asg (pe_dget hu (pv 4) (pv 8) (fun _ _ => rfl)) (pg_tup rfl (pgs_cons (pg_name (i := 9) scBar.nd rfl (.inl rfl)) (pgs_cons (pg_name (i := 6) scBar.nd rfl (.inl rfl)) pgs_nil))))
        (pss_one (ps_if (pt_truth (pe_op op_odd (pe_callB call_len_seq rfl B.len PySem.boot_len (pa_cons (pe_call GT hr1 (by rfl) A_.bits.g A_.bits.F.kp A_.bits.b .nil pass0 (pa_cons (pe_op op_and (pv 9) (pv 7)) pa_nil)) pa_nil)) pe_int) (by intro _; rfl))
          (pss_one (ps_set (i := 7) scBar.nd rfl (Or.inl rfl) (pe_op op_or (pv 7) (pe_op op_oneShl pe_int (pe_op op_sub (pv 8) pe_int))))) pss_nil))))
      (pss_one (ps_ret (pe_tupleOf rfl B.tuple (pe_lc (own := [("at", 10)]) (g := gName 10) (te := tOp (rIxL K) (tVar 2) (tVar 10)) rfl scBar.nd (pi_list (pe_call GT hr1 (by rfl) A_.bits.g A_.bits.F.kp A_.bits.b .nil pass0 (pa_cons (pv 7) pa_nil))) (blkOk_by (N := nBar) (sc := defScope sBar) (by decide +kernel))
            (fun _ _ _ _ _ => pg_name (i := 10) scBar.nd rfl (Or.inl rfl)) (fun _ _ _ _ _ => pts_nil) (fun _ _ _ _ _ => pe_ix ix_list (pv 2) (pv 10) (fun _ _ => rfl)))))))))))), ?_⟩
    have hfew := fit.few
    have hsum := fit.sum
    have hlen := fit.len
    refine q_as (el_num (i := 0) (j := 1) rfl rfl hS hP hL (by omega) hlen hfew H (Ex.refl H) _ fun mA Hm hm em h1m => ?_)
    refine q_as (ed_places (K := K) (H := Hm) (σ := [some (.ref a), some v2, some (.ref mA), none, none, none, none, none, none, none, none, none, none]) (i := 10) (j := 11) (ev_s (ev_var rfl) (sq_of h1m)) (marks_nd ls lot) (by omega) (by decide) (by simp) (by simp) (fun _ _ => rfl) Hm (Ex.refl Hm) _ fun D H1 hD e1' h1 => ?_)
    have e1 : Ex H H1 := em.trans e1'
    refine q_as (c_op (a_op (el_masks (i := 0) (j := 3) (n := 12) (d := D) (ls := ls) rfl rfl (by decide) ?hn (hS.up e1) (lots_up e1 hP) h1 (marks_nd ls lot) (by omega) fit.each hlen (fun l hl x hx => mem_marks.mpr (.inl ⟨l, hl, hx⟩)) (fun _ => rfl) H1 (Ex.refl H1) _ fun p H2 hp e2 h2 => ?_)))
    case hn => exact (show (12 : Nat) < 13 by decide)
    refine ⟨p, ls.map (mk (marks ls lot)), rfl, sq_of h2, by rw [List.length_map]; omega, fun d H3 hd e3 hB => ?_⟩
    refine ⟨.ref d, rfl, ev_mask (i := 1) (j := 3) (d := D) (lot := lot) rfl rfl (hL.up ((e1.trans e2).trans e3)) ((e2.trans e3) D _ h1) (marks_nd ls lot) (by omega) (by omega) (fun x hx => mem_marks.mpr (.inr hx)) H3 (Ex.refl H3) _ fun H4 e4 => ?_⟩
    refine ⟨d, mk (marks ls lot) lot, 0, basL ls lot, rfl, hB.up e4, good_bas _, fun t H5 ht e5 h5 => ?_⟩
    have e15 : Ex H H5 := (((e1.trans e2).trans e3).trans e4).trans e5
    have e15' : Ex Hm H5 := (((e1'.trans e2).trans e3).trans e4).trans e5
    refine ⟨t, _, rfl, st_of h5, rfl, _, _, rfl, _, _, rfl, rfl, ?_⟩
    refine ⟨.int ((leftL ls lot).1 : Int), rfl, _, rfl, ?_⟩
    by_cases hz : (leftL ls lot).1 = 0
    · have eb : (((leftL ls lot).1 : Int) != 0) = false := by rw [hz]; rfl
      rw [eb]
      refine iteT ?_
      have es : barF ls lot = none := by
        unfold barF
        rw [if_pos hz]
      rw [es] at q
      exact q H5 e15
    · have eb : (((leftL ls lot).1 : Int) != 0) = true := by
        rw [bne_iff_ne]
        intro z
        exact hz (by omega)
      rw [eb]
      refine iteF ?_
      have es : barF ls lot = some (barL ls lot) := by
        unfold barF
        rw [if_neg hz]
      rw [es] at q
      have hpos := bl_pos hz
      have hle : bl (leftL ls lot).1 ≤ (marks ls lot).length := Nat.le_trans (left_le (good_bas _) _ _) (bl_le_of_lt (mk_lt _ _))
      refine ⟨.int ((leftL ls lot).1 : Int), rfl, _, rfl, ?_⟩
      refine ⟨_, 1, rfl, rfl, bl (leftL ls lot).1 - 1, rfl, ?_, by omega, ?_⟩
      · rw [bits_bl]
        show V.int _ = V.int _
        congr 1
        omega
      -- for length in sorted(basis)
      have hB5 : BasR K H5 d (basL ls lot) := (hB.up e4).up e5
      obtain ⟨kvs, hk5, hP5⟩ := hB5
      refine ⟨.ref d, rfl, d, kvs, (basL ls lot).map fun e => (e.1 : Int), rfl, .inl hk5, rows_keys hP5, by rw [List.length_map]; have := bas_few ls lot; omega, fun ys r hperm hsort hr0 => ?_⟩
      have hys : ys = ofN (keysL ls lot) := by
        rw [keysL_int]
        refine sort_is hperm hsort ?_ (asc_pw _) fun x => mem_asc.symm
        have nd := bas_nd (ls.map (mk (marks ls lot)))
        have : ((basL ls lot).map fun e => (e.1 : Int)) = ((basL ls lot).map (·.1)).map Int.ofNat := by rw [List.map_map]; rfl
        rw [this]
        exact List.pairwise_map.mpr (nd.imp fun hne e => hne (Int.ofNat.inj e))
      subst hys
      have e56 : Ex H5 (upd H5 r (.lst ((ofN (keysL ls lot)).map V.int))) := Ex.new hr0
      generalize hH6 : upd H5 r (.lst ((ofN (keysL ls lot)).map V.int)) = H6 at e56
      have hr6 : SqL K H6 r ((ofN (keysL ls lot)).map V.int) := by rw [← hH6]; exact sq_of upd_same
      have hfl : ∀ i, barf (basL ls lot) ((keysL ls lot).take i) (2 ^ (bl (leftL ls lot).1 - 1)) < 2 ^ 500 := fun i => by
        refine Nat.lt_of_lt_of_le (barf_lt (N := (marks ls lot).length) (keys_lt ls lot) _ _ (Nat.pow_lt_pow_right (by decide) (by omega)) fun l hl => ?_) (Nat.pow_le_pow_right (by decide) (by omega))
        obtain ⟨e, he, rfl⟩ := keysL_mem.mp (List.mem_of_mem_take hl)
        exact (good_bas (ls.map (mk (marks ls lot))) e he).2
      refine ⟨r, rfl, ⟨_, hr6⟩, for_list (K := K) (xs := (ofN (keysL ls lot)).map V.int) (fun i σ' H' => ∃ y6 y8 y9, σ' = [some (.ref a), some v2, some (.ref mA), some (.ref D), some (.ref d), some (.int ((leftL ls lot).1 : Int)), y6, some (.int ((barf (basL ls lot) ((keysL ls lot).take i) (2 ^ (bl (leftL ls lot).1 - 1)) : Nat) : Int)), y8, y9, none, none, none] ∧ Ex H6 H')
        ⟨_, _, _, (by rw [← PySem.W.kbt_cast]; rfl), Ex.refl H6⟩ (fun i σ' H' _ ⟨_, _, _, _, e⟩ => ex_l e hr6) ?_ ?_⟩
      · rintro i x σ' H' hi ⟨y6, y8, y9, rfl, e7⟩
        rw [List.getElem?_map, List.getElem?_map] at hi
        obtain ⟨l, hl, rfl⟩ : ∃ l, (keysL ls lot)[i]? = some l ∧ x = .int (l : Int) := by
          cases e : (keysL ls lot)[i]? with
          | none => rw [e] at hi; cases hi
          | some l => rw [e] at hi; exact ⟨l, rfl, (Option.some.inj hi).symm⟩
        obtain ⟨e, he, rfl⟩ := keysL_mem.mp (List.mem_of_getElem? hl)
        have g := good_bas (ls.map (mk (marks ls lot)))
        have hlk := look_of (bas_nd (ls.map (mk (marks ls lot)))) he
        have hv := bas_val (K := K) (H := H5) e.1 hP5
        have hlk : look (basL ls lot) e.1 = some e.2 := hlk
        rw [hlk] at hv
        obtain ⟨t2, hv, ht2⟩ := hv
        have e57 : Ex H5 H' := e56.trans e7
        have hg := DGet.k (k := Sum.inl (e.1 : Int)) (e57 d _ hk5)
        rw [hv] at hg
        refine ⟨.ref d, rfl, .int (e.1 : Int), rfl, d, .ref t2, rfl, hg, t2, _, rfl, ex_t e57 ht2, rfl, _, _, rfl, _, _, rfl, rfl, ?_⟩
        refine ⟨.int (e.2.1 : Int), rfl, .int _, rfl, _, _, rfl, rfl, ?_⟩
        have hrow : e.2.1 < 2 ^ 500 := by
          have h1 := bl_lt e.2.1
          have h2 := (g e he).1
          have h3 := keys_lt ls lot e he
          rw [h2] at h1
          exact Nat.lt_of_lt_of_le h1 (Nat.pow_le_pow_right (by decide) (by omega))
        refine ⟨e.2.1 &&& barf (basL ls lot) ((keysL ls lot).take i) (2 ^ (bl (leftL ls lot).1 - 1)), by rw [← and_nn]; rfl, Nat.lt_of_le_of_lt Nat.and_le_left hrow, fun p8 H8 hp8 e8 h8 => ?_⟩
        refine ⟨p8, _, rfl, .inl (sq_of h8), ?_⟩
        rw [List.length_map, List.length_map]
        refine ⟨_, rfl, rfl, _, rfl, ?_⟩
        have hstep := barf_take (B := basL ls lot) (f := 2 ^ (bl (leftL ls lot).1 - 1)) hl
        have hst2 : barStep (basL ls lot) (barf (basL ls lot) ((keysL ls lot).take i) (2 ^ (bl (leftL ls lot).1 - 1))) e.1 = if dot e.2.1 (barf (basL ls lot) ((keysL ls lot).take i) (2 ^ (bl (leftL ls lot).1 - 1))) then barf (basL ls lot) ((keysL ls lot).take i) (2 ^ (bl (leftL ls lot).1 - 1)) ||| 2 ^ (e.1 - 1) else barf (basL ls lot) ((keysL ls lot).take i) (2 ^ (bl (leftL ls lot).1 - 1)) := by
          unfold barStep
          rw [hlk]
        rw [hst2] at hstep
        generalize barf (basL ls lot) ((keysL ls lot).take i) (2 ^ (bl (leftL ls lot).1 - 1)) = fo at hstep
        have hdot : (((((KM.bits (e.2.1 &&& fo)).length % 2 : Nat) : Int)) != 0) = dot e.2.1 fo := by
          unfold dot
          rcases Nat.mod_two_eq_zero_or_one (KM.bits (e.2.1 &&& fo)).length with z | z <;> rw [z] <;> rfl
        rw [hdot]
        have hkey := (g e he).2
        cases hd2 : dot e.2.1 fo with
        | false =>
          refine iteF ?_
          rw [hd2] at hstep
          refine ⟨some (.int (e.2.2 : Int)), some (.int (e.1 : Int)), some (.int (e.2.1 : Int)), ?_, e7.trans e8⟩
          rw [hstep]
          rfl
        | true =>
          refine iteT ?_
          rw [hd2] at hstep
          have hsub : (e.1 : Int) - 1 = ((e.1 - 1 : Nat) : Int) := by omega
          refine ⟨_, rfl, .int (e.1 : Int), rfl, _, 1, rfl, rfl, e.1 - 1, rfl, congrArg V.int hsub, ?_, _, _, rfl, rfl, ?_⟩
          · have h3 := keys_lt ls lot e he
            omega
          · refine ⟨some (.int (e.2.2 : Int)), some (.int (e.1 : Int)), some (.int (e.2.1 : Int)), ?_, e7.trans e8⟩
            rw [hstep]
            show _ = [some (V.ref a), some v2, some (V.ref mA), some (V.ref D), some (V.ref d), some (V.int ((leftL ls lot).1 : Int)), some (.int (e.2.2 : Int)), some (V.int ((fo ||| 2 ^ (e.1 - 1) : Nat) : Int)), some (.int (e.1 : Int)), some (.int (e.2.1 : Int)), none, none, none]
            rw [← or_nn, PySem.W.kbt_cast]
            rfl
      · rintro σ' H' ⟨y6, y8, y9, rfl, e7⟩
        have hfull : (keysL ls lot).take ((ofN (keysL ls lot)).map V.int).length = keysL ls lot := by
          rw [List.length_map, List.length_map, List.take_length]
        have hff := hfl ((ofN (keysL ls lot)).map V.int).length
        rw [hfull] at hff ⊢
        have hfo : barf (basL ls lot) (keysL ls lot) (2 ^ (bl (leftL ls lot).1 - 1)) = foundL ls lot := rfl
        rw [hfo] at hff ⊢
        have em7 : Ex Hm H' := (e15'.trans e56).trans e7
        have e07 : Ex H H' := (e15.trans e56).trans e7
        have hval : given ((ofN (KM.bits (foundL ls lot))).map V.int).length (fun _ => true) (fun i => V.int ((barL ls lot).getD i 0)) = (barL ls lot).map V.int := given_all (by
            unfold barL
            simp) fun i x hx => by
          rw [List.getElem?_map] at hx
          cases e : (barL ls lot)[i]? with
          | none => rw [e] at hx; cases hx
          | some z =>
            rw [e] at hx
            rw [List.getD_eq_getElem?_getD, e]
            exact Option.some.inj hx
        have comp := el_lcS (K := K) (σ := [some (.ref a), some v2, some (.ref mA), some (.ref D), some (.ref d), some (.int ((leftL ls lot).1 : Int)), y6, some (.int (foundL ls lot : Int)), y8, y9, none, none, none]) (H := H') (tl := tCall (spBits K) [] E0 (tCons (tVar 7) tNil)) (te := tOp (rIxL K) (tVar 2) (tVar 10)) (t := tYes) (j := 10) (vs := [10]) (xs := (ofN (KM.bits (foundL ls lot))).map V.int) (fun _ => true) (fun i => V.int ((barL ls lot).getD i 0))
          (fun H9 e9 Q9 q9 => ⟨.int (foundL ls lot : Int), rfl, foundL ls lot, rfl, hff, fun p9 H10 hp9 e10 h10 => q9 p9 H10 e10 (sq_of h10)⟩)
          (by
            rw [List.length_map, List.length_map]
            have h1 : (KM.bits (foundL ls lot)).length ≤ bl (foundL ls lot) := by
              unfold KM.bits
              have := List.length_filter_le (fun i => (foundL ls lot).testBit i) (List.range (bl (foundL ls lot)))
              rw [List.length_range] at this
              exact this
            have h2 := bl_le_of_lt (found_lt ls lot hz)
            omega) (fun _ => rfl) (fun _ _ _ _ _ => et_yes) (fun i x H9 e9 hx _ => by
            rw [List.getElem?_map, List.getElem?_map] at hx
            obtain ⟨bt, hbt, rfl⟩ : ∃ bt, (KM.bits (foundL ls lot))[i]? = some bt ∧ x = .int (bt : Int) := by
              cases e : (KM.bits (foundL ls lot))[i]? with
              | none => rw [e] at hx; cases hx
              | some l => rw [e] at hx; exact ⟨l, rfl, (Option.some.inj hx).symm⟩
            have hmem := mem_bits.mp (List.mem_of_getElem? hbt)
            have hlt : bt < (marks ls lot).length := by
              rcases Nat.lt_or_ge bt (marks ls lot).length with h | h
              · exact h
              · rw [Nat.testBit_lt_two_pow (Nat.lt_of_lt_of_le (found_lt ls lot hz) (Nat.pow_le_pow_right (by decide) h))] at hmem
                cases hmem
            have eb : (barL ls lot).getD i 0 = (marks ls lot)[bt] := by
              unfold barL
              rw [List.getD_eq_getElem?_getD, List.getElem?_map, hbt]
              show (marks ls lot).getD bt 0 = _
              rw [List.getD_eq_getElem?_getD, List.getElem?_eq_getElem hlt]
              rfl
            rw [eb]
            refine ev_op (ev_var rfl) (ev_var rfl) (rv_ixL (sq_of ((em7.trans e9) mA _ h1m)) (atI_nat (j := bt) ?_))
            rw [List.getElem?_map, List.getElem?_eq_getElem hlt]
            rfl)
        rw [hval] at comp
        refine s_re (th_op (comp H' (Ex.refl H') _ fun p11 H11 hp11 e11 h11 => .inl ⟨p11, _, rfl, sq_of h11, fun z hz2 => ?_⟩))
        exact q z _ (fresh_back (e07.trans e11) hz2) ((e07.trans e11).trans (Ex.new hz2)) upd_same
end
end KS
namespace KS
open PySem PySem.Spec PyProof.Rows L2 KR KM Evl StX
/-! ### data compared -/
def intsD (l : List Int) : List PyData := l.map PyData.int
theorem dp_ints {K : PySem.W.Frag} {H : Hp} : ∀ l : List Int, DpAll K H (l.map V.int) (intsD l)
  | [] => .nil
  | x :: l => .cons (.int x) (dp_ints l)
theorem lay_ints : ∀ l : List Int, PyData.canLayAll0 (intsD l) = true
  | [] => by simp [intsD, PyData.canLayAll0]
  | x :: l => by
    have ih := lay_ints l
    unfold intsD at ih ⊢
    rw [List.map_cons, PyData.canLayAll0, ih]
    simp [PyData.canLay0]
theorem dep_ints : ∀ l : List Int, PyData.depthAll (intsD l) = 0
  | [] => by simp [intsD, PyData.depthAll]
  | x :: l => by
    have ih := dep_ints l
    unfold intsD at ih ⊢
    rw [List.map_cons, PyData.depthAll, ih]
    simp [PyData.depth]
theorem sh_list (l : List Int) : SeqAt.shaped (.list (intsD l)) = true := by
  unfold SeqAt.shaped
  rw [PyData.canLay0, lay_ints, PyData.depth, dep_ints]
  rfl
theorem sh_tup (l : List Int) : SeqAt.shaped (.tuple (intsD l)) = true := by
  unfold SeqAt.shaped
  rw [PyData.canLay0, lay_ints, PyData.depth, dep_ints]
  rfl
theorem sh_none : SeqAt.shaped .none = true := by
  unfold SeqAt.shaped
  rw [PyData.canLay0, PyData.depth]
  rfl
theorem eqv_ints : ∀ a b : List Int, PyData.eqvAll (intsD a) (intsD b) = decide (a = b)
  | [], [] => by simp [intsD, PyData.eqvAll]
  | [], _ :: _ => by simp [intsD, PyData.eqvAll]
  | _ :: _, [] => by simp [intsD, PyData.eqvAll]
  | x :: a, y :: b => by
    have ih := eqv_ints a b
    unfold intsD at ih ⊢
    rw [List.map_cons, List.map_cons, PyData.eqvAll, ih, PyData.eqv]
    by_cases h : x = y
    · subst h
      by_cases h2 : a = b
      · subst h2; simp
      · simp [h2]
    · simp [h]
theorem eqv_list (a b : List Int) : PyData.eqv (.list (intsD a)) (.list (intsD b)) = decide (a = b) := by rw [PyData.eqv]; exact eqv_ints a b
theorem eqv_tup (a b : List Int) : PyData.eqv (.tuple (intsD a)) (.tuple (intsD b)) = decide (a = b) := by rw [PyData.eqv]; exact eqv_ints a b
/-! ### all but one object stays -/
def ExP (p : Addr) (H H' : Hp) : Prop := ∀ a o, a ≠ p → H a = some o → H' a = some o
theorem ExP.refl (p : Addr) (H : Hp) : ExP p H H := fun _ _ _ h => h
theorem ExP.trans {p : Addr} {H H1 H2 : Hp} (a : ExP p H H1) (b : ExP p H1 H2) : ExP p H H2 := fun x o n h => b x o n (a x o n h)
theorem Ex.p {p : Addr} {H H' : Hp} (e : Ex H H') : ExP p H H' := fun a o _ h => e a o h
theorem ExP.upd {p : Addr} {H : Hp} {o : HO} : ExP p H (upd H p o) := fun a u n h => by rw [upd_ne n]; exact h
/-- read behind a change of p, where p's own object is of another kind -/
theorem exp_l {K : PySem.W.Frag} {p : Addr} {H H' : Hp} {a : Addr} {xs : List V} (e : ExP p H H') (hp : a ≠ p) (h : SqL K H a xs) : SqL K H' a xs := by
  rcases h with (h | ⟨o, h⟩) | h
  · exact .inl (.inl (e a _ hp h))
  · exact .inl (.inr ⟨o, e a _ hp h⟩)
  · exact .inr h
structure Pen (H : Hp) (p l : Addr) (ns : List Int) (n : Int) : Prop where
  at_ : ∃ t r, H p = some (.lst [.ref l, .int t, .int r]) ∧ 0 ≤ t ∧ t ≤ n
  ls : H l = some (.lst (ns.map V.int))
  ne : l ≠ p
  few : ns.length ≤ 63
theorem Pen.more {H : Hp} {p l : Addr} {ns : List Int} {n m : Int} (h : Pen H p l ns n) (k : n ≤ m) : Pen H p l ns m := let ⟨t, r, a, b, c⟩ := h.at_; ⟨⟨t, r, a, b, by omega⟩, h.ls, h.ne, h.few⟩
theorem Pen.up {H H' : Hp} {p l : Addr} {ns : List Int} {n : Int} (e : Ex H H') (h : Pen H p l ns n) : Pen H' p l ns n := let ⟨t, r, a, b, c⟩ := h.at_; ⟨⟨t, r, e _ _ a, b, c⟩, e _ _ h.ls, h.ne, h.few⟩
theorem Pen.some {H : Hp} {p l : Addr} {ns : List Int} {n : Int} (h : Pen H p l ns n) {D : Addr} (hD : H D = none) : D ≠ p := fun e => by
  obtain ⟨t, r, a, _⟩ := h.at_
  rw [e, a] at hD
  cases hD
section
variable {P : Program} {w : World} {K : PySem.W.Frag} {mg : Str → Option Value} {base : Heap}
/-! ### _law_pen -/
abbrev sPen : Stmt := topS 10
theorem scPen : FnScope ["_law_script", "_law_cell"] ["_law_script"] (defScope sPen) := ⟨rfl, rfl, rfl, by decide +kernel, rfl, by decide +kernel, by decide +kernel⟩
def spPen (K : PySem.W.Frag) : Sp := fun vs H Q _ => ∃ (a : Addr) (ns : List Int), vs = [.ref a] ∧ SqL K H a (ns.map V.int) ∧ ns.length ≤ 63 ∧
  ∀ p l ms H2, H p = none → Ex H H2 → Pen H2 p l ms 0 → Q (.ref p) H2
theorem ok_pen {f : Addr} {fd : FuncData} {k : Nat} (F : Fun K "_law_pen" "_law_pen" sPen f fd) (B : Bu mg) : FnOk P w K mg base CX0 (k + 1) f fd ["_law_script"] (spPen K) := by
  refine F.ok scPen (fun vs H Q E h => ?_) (fun cdv A outer s H vs Q E hr h => ?_)
  · obtain ⟨a, ns, rfl, _⟩ := h
    rfl
  · obtain ⟨a, ns, rfl, hS, hz, q⟩ := h
    refine ⟨_, pss_one (ps_ret (pe_lst (pa_cons (pe_lc (own := [("_law_cell", 1)]) (g := gName 1) rfl scPen.nd (pi_list (pe_slice sl_list (pv 0) po_none (po_some pe_int))) (blkOk_by (N := ["_law_script", "_law_cell"]) (sc := defScope sPen) (by decide +kernel))
        (fun _ _ _ _ _ => pg_name (i := 1) scPen.nd rfl (Or.inl rfl)) (fun _ _ _ _ _ => pts_nil) (fun _ _ _ _ _ => pe_callTy call_int1 rfl B.int boot_int (pa_cons (pv 1) pa_nil))) (pa_cons pe_int (pa_cons pe_int pa_nil))))), ?_⟩
    obtain ⟨ms, hms, hml⟩ : ∃ ms : List Int, cutV (ns.map V.int) none (some 60) = ms.map V.int ∧ ms.length ≤ 63 := by
      refine ⟨(ns.drop (HT.sIx ns.length 0 none)).take (HT.sIx ns.length ns.length (some 60) - HT.sIx ns.length 0 none), ?_, ?_⟩
      · unfold cutV
        rw [List.length_map, List.map_take, List.map_drop]
      · rw [List.length_take, List.length_drop]
        omega
    have hval : given (ms.map V.int).length (fun _ => true) (fun i => V.int (ms.getD i 0)) = ms.map V.int := given_all (by simp) fun i x hx => by
      rw [List.getElem?_map] at hx
      cases e : ms[i]? with
      | none => rw [e] at hx; cases hx
      | some z =>
        rw [e] at hx
        rw [List.getD_eq_getElem?_getD, e]
        exact Option.some.inj hx
    have comp := el_lcS (K := K) (σ := [some (.ref a), none]) (H := H) (tl := tSl (rSlL K) (tVar 0) tNoPart (tPart (tC (.int 60)))) (te := tCB (fun xs H Q => (∃ i, xs = [V.int i] ∧ Q (.int i) H) ∨ ∃ k, xs = [V.bl k] ∧ Q (.int (if k then 1 else 0)) H) (tCons (tVar 1) tNil)) (t := tYes) (j := 1) (vs := [1]) (xs := ms.map V.int) (fun _ => true) (fun i => V.int (ms.getD i 0))
      (EvL.s (by rw [← hms]; exact el_sl (ev_var rfl) eo_none (eo_some ev_c) hS)) (by rw [List.length_map]; omega) (fun _ => rfl) (fun _ _ _ _ _ => et_yes) (fun i x H9 e9 hx _ => by
        rw [List.getElem?_map] at hx
        obtain ⟨z, hz2, rfl⟩ : ∃ z, ms[i]? = some z ∧ x = .int z := by
          cases e : ms[i]? with
          | none => rw [e] at hx; cases hx
          | some l => rw [e] at hx; exact ⟨l, rfl, (Option.some.inj hx).symm⟩
        rw [List.getD_eq_getElem?_getD, hz2]
        exact fun H1 e1 Q1 q1 => ⟨.int z, rfl, .inl ⟨z, rfl, q1 H1 (Ex.refl H1)⟩⟩)
    rw [hval] at comp
    refine s_re (l_op (a_op (comp H (Ex.refl H) _ fun l H1 hl e1 h1 => ⟨by show 3 ≤ sizeLine; decide, fun p hp => ?_⟩)))
    have e2 : Ex H1 (upd H1 p (.lst [.ref l, .int 0, .int 0])) := Ex.new hp
    refine q p l ms _ (fresh_back e1 hp) (e1.trans e2) ⟨⟨0, 0, upd_same, by decide, by decide⟩, e2 l _ h1, ne_of_none h1 hp, hml⟩
end
end KS
namespace KS
open PySem PySem.Spec PyProof.Rows L2 KR KM Evl StX
section
variable {P : Program} {w : World} {K : PySem.W.Frag} {mg : Str → Option Value} {base : Heap}
abbrev sDraw : Stmt := topS 11
abbrev nDraw : List Str := ["_law_pen_here", "_law_many", "_law_rest", "_law_turn", "_law_cell", "_law_mixed"]
theorem scDraw : FnScope nDraw ["_law_pen_here", "_law_many"] (defScope sDraw) := ⟨rfl, rfl, rfl, by decide +kernel, rfl, by decide +kernel, by decide +kernel⟩
def spDraw : Sp := fun vs H Q _ => ∃ (p l : Addr) (ns : List Int) (n m : Int), vs = [.ref p, .int m] ∧ Pen H p l ns n ∧ n ≤ 100000 ∧ 0 < m ∧ m ≤ 1000 ∧
  ∀ v H2, 0 ≤ v → v < m → ExP p H H2 → Pen H2 p l ns (n + 1) → Q (.int v) H2
theorem mix1 {x t : Int} (h0 : 0 ≤ t) (h1 : t ≤ 100000) : (x % 2147483579 + 90121 * t + 5009).natAbs < 2 ^ 64 := by
  have := Int.emod_nonneg x (show (2147483579 : Int) ≠ 0 by decide)
  have := Int.emod_lt_of_pos x (show (0 : Int) < 2147483579 by decide)
  omega
theorem mix2 {x t : Int} (h0 : 0 ≤ t) (h1 : t ≤ 100000) : (x % 2147483563 * (2 * t + 3011) + 71129 * t * t + 90121).natAbs < 2 ^ 64 := by
  have a := Int.emod_nonneg x (show (2147483563 : Int) ≠ 0 by decide)
  have b := Int.emod_lt_of_pos x (show (0 : Int) < 2147483563 by decide)
  generalize x % 2147483563 = y at a b
  have c : y * (2 * t + 3011) ≤ 2147483563 * 203011 := Int.mul_le_mul (by omega) (by omega) (by omega) (by decide)
  have d : 0 ≤ y * (2 * t + 3011) := Int.mul_nonneg a (by omega)
  have e : 71129 * t * t ≤ 7112900000 * 100000 := Int.mul_le_mul (by omega) h1 h0 (by decide)
  have f : 0 ≤ 71129 * t * t := Int.mul_nonneg (by omega) h0
  omega
theorem ok_draw {f : Addr} {fd : FuncData} {k : Nat} (F : Fun K "_law_draw" "_law_draw" sDraw f fd) (B : Bu mg) : FnOk P w K mg base CX0 (k + 1) f fd ["_law_pen_here", "_law_many"] spDraw := by
  refine F.ok scDraw (fun vs H Q E h => ?_) (fun cdv A outer s H vs Q E hr h => ?_)
  · obtain ⟨p, l, ns, n, m, rfl, _⟩ := h
    rfl
  · obtain ⟨p, l, ns, n, m, rfl, hp, hn, hm0, hm1, q⟩ := h
    have hu := hu_of hr
    have hu64 := hr.units
    refine ⟨_, pss_cons (ps_if (pt_cmpR op_gt (pe_ix ix_list (pv 0) pe_int (fun _ _ => rfl)) pe_int (nomark _))
        (pss_cons (ps_set (i := 2) scDraw.nd rfl (Or.inl rfl) (pe_callTy call_int1 rfl B.int boot_int (pa_cons (pe_ix ix_list (pv 0) pe_int (fun _ _ => rfl)) pa_nil)))
        (pss_cons (ps_asg (pe_op op_fdiv (pv 2) (pv 1)) (pg_sub (pv 0) pe_int set_list))
        (pss_one (ps_ret (pe_op op_mod (pe_callTy call_int1 rfl B.int boot_int (pa_cons (pv 2) pa_nil)) (pv 1)))))) pss_nil)
      (pss_cons (ps_set (i := 3) scDraw.nd rfl (Or.inl rfl) (pe_ix ix_list (pv 0) pe_int (fun _ _ => rfl)))
      (pss_cons (ps_asg (pe_op op_add (pv 3) pe_int) (pg_sub (pv 0) pe_int set_list))
      (pss_cons (ps_set (i := 4) scDraw.nd rfl (Or.inl rfl) (pe_op op_add (pe_op op_mul pe_int (pv 3)) pe_int))
      (Evl.pss_cut (ps_if (pt_cmpR (op_neD hu64) (pe_ix ix_list (pv 0) pe_int (fun _ _ => rfl)) (pe_lst pa_nil) (nomark _))
        (pss_one (ps_set (i := 4) scDraw.nd rfl (Or.inl rfl) (pe_ix ix_list (pe_ix ix_list (pv 0) pe_int (fun _ _ => rfl)) (pe_op op_mod (pe_callTy call_int1 rfl B.int boot_int (pa_cons (pv 3) pa_nil)) (pe_callB call_len_seq rfl B.len PySem.boot_len (pa_cons (pe_ix ix_list (pv 0) pe_int (fun _ _ => rfl)) pa_nil))) (fun _ _ => rfl)))) pss_nil)
      (Evl.pss_cut (ps_if (PW.pt (pw_and (pt_cmpR op_lt (pv 3) (pe_callB call_len_seq rfl B.len PySem.boot_len (pa_cons (pe_ix ix_list (pv 0) pe_int (fun _ _ => rfl)) pa_nil)) (nomark _)) (pw_and1 (pt_cmpR op_ge (pe_callB call_abs rfl B.abs (by decide +kernel) (pa_cons (pv 4) pa_nil)) (pe_op op_pow pe_int pe_int) (nomark _)))))
        (pss_cons (ps_set (i := 2) scDraw.nd rfl (Or.inl rfl) (pe_op op_add (pe_op op_mul pe_int (pe_op op_sub (pe_callB call_abs rfl B.abs (by decide +kernel) (pa_cons (pv 4) pa_nil)) (pe_op op_pow pe_int pe_int))) (pe_callTy call_int1 rfl B.int boot_int (pa_cons (pe_cmpR op_lt (pv 4) pe_int (nomark _)) pa_nil))))
        (pss_cons (ps_asg (pe_op op_fdiv (pv 2) (pv 1)) (pg_sub (pv 0) pe_int set_list))
        (pss_one (ps_ret (pe_op op_mod (pe_callTy call_int1 rfl B.int boot_int (pa_cons (pv 2) pa_nil)) (pv 1)))))) pss_nil)
      (pss_cons (ps_set (i := 5) scDraw.nd rfl (Or.inl rfl) (pe_op op_mod (pe_callTy call_int1 rfl B.int boot_int (pa_cons (pe_op op_pow (pe_op op_add (pe_op op_add (pe_op op_mod (pe_callTy call_int1 rfl B.int boot_int (pa_cons (pv 4) pa_nil)) pe_int) (pe_op op_mul pe_int (pv 3))) pe_int) pe_int) pa_nil)) pe_int))
      (pss_cons (ps_set (i := 5) scDraw.nd rfl (Or.inl rfl) (pe_op op_mod (pe_callTy call_int1 rfl B.int boot_int (pa_cons (pe_op op_pow (pe_op op_add (pe_op op_add (pe_op op_mul (pv 5) (pe_op op_add (pe_op op_mul pe_int (pv 3)) pe_int)) (pe_op op_mul (pe_op op_mul pe_int (pv 3)) (pv 3))) pe_int) pe_int) pa_nil)) pe_int))
      (pss_one (ps_ret (pe_op op_mod (pe_callTy call_int1 rfl B.int boot_int (pa_cons (pe_op op_fdiv (pv 5) pe_int) pa_nil)) (pv 1))))))))))), ?_⟩
    obtain ⟨t, r, hat, ht0, htn⟩ := hp.at_
    have hls := hp.ls
    have hne := hp.ne
    have hfew := hp.few
    refine ⟨.ref p, rfl, p, _, 2, .int r, rfl, rfl, sq_of hat, rfl, _, _, rfl, rfl, _, rfl, ite2 (fun hr0 => ?_) (fun hr0 => ?_)⟩
    · refine ⟨.ref p, rfl, p, _, 2, .int r, rfl, rfl, sq_of hat, rfl, .inl ⟨r, rfl, ?_⟩⟩
      refine ⟨.int r, rfl, .int m, rfl, r, m, rfl, rfl, ⟨hm0, by omega⟩, .ref p, rfl, p, _, 2, 2, rfl, rfl, hat, rfl, ?_⟩
      refine ⟨.int r, rfl, .inl ⟨r, rfl, .int m, rfl, r, m, rfl, rfl, hm0, ?_⟩⟩
      exact q _ _ (Int.emod_nonneg _ (by omega)) (Int.emod_lt_of_pos _ hm0) ExP.upd ⟨⟨t, r / m, upd_same, ht0, by omega⟩, by rw [upd_ne hne]; exact hls, hne, hfew⟩
    · -- turn = pen[1]; pen[1] = turn + 1; cell = ..
      refine ⟨.ref p, rfl, p, _, 1, .int t, rfl, rfl, sq_of hat, rfl, ?_⟩
      refine ⟨.int t, rfl, t, 1, rfl, rfl, .ref p, rfl, p, _, 1, 1, rfl, rfl, hat, rfl, ?_⟩
      have hx1 : ExP p H (upd H p (.lst ([V.ref l, .int t, .int r].set 1 (.int (t + 1))))) := ExP.upd
      have hat1 : (upd H p (.lst ([V.ref l, .int t, .int r].set 1 (.int (t + 1))))) p = some (.lst [.ref l, .int (t + 1), .int r]) := upd_same
      generalize hH1 : upd H p (.lst ([V.ref l, .int t, .int r].set 1 (.int (t + 1)))) = H1 at hx1 hat1
      have hls1 := hx1 l _ hne hls
      refine ⟨.int t, rfl, 71129, t, rfl, rfl, .inl ⟨by decide, by decide⟩, _, 5009, rfl, rfl, ?_⟩
      -- if pen[0] != []
      refine ⟨fun σ' H' => ∃ c : Int, σ' = [some (.ref p), some (.int m), none, some (.int t), some (.int c), none] ∧ Ex H1 H', ?_, ?_⟩
      · refine ⟨.ref p, rfl, p, _, 0, .ref l, rfl, rfl, sq_of hat1, rfl, Nat.zero_le _, fun e0 he0 => ?_⟩
        have hx2 : Ex H1 (upd H1 e0 (.lst [])) := Ex.new he0
        refine ⟨.list (intsD ns), .list (intsD []), .lst (sq_of (hx2 l _ hls1)) (dp_ints ns), .lst (sq_of upd_same) .nil, sh_list ns, sh_list [], _, rfl, ?_⟩
        rw [eqv_list]
        cases ns with
        | nil => exact iteF ⟨_, rfl, hx2⟩
        | cons z zs =>
          have e : (!decide (z :: zs = [])) = true := rfl
          rw [e]
          refine iteT ?_
          have hat2 := hx2 p _ hat1
          have hls2 := hx2 l _ hls1
          have hm0 := Int.emod_nonneg t (show ((((z :: zs).map V.int).length : Nat) : Int) ≠ 0 by rw [List.length_map, List.length_cons]; omega)
          have hm1 := Int.emod_lt_of_pos t (show (0 : Int) < ((((z :: zs).map V.int).length : Nat) : Int) by rw [List.length_map, List.length_cons]; omega)
          have hk : (t % ((((z :: zs).map V.int).length : Nat) : Int)).toNat < (z :: zs).length := by
            rw [List.length_map] at hm0 hm1 ⊢
            omega
          refine ⟨.ref p, rfl, p, _, 0, .ref l, rfl, rfl, sq_of hat2, rfl, .int t, rfl, .inl ⟨t, rfl, .ref p, rfl, p, _, 0, .ref l, rfl, rfl, sq_of hat2, rfl, l, _, rfl, .inl (sq_of hls2), t, _, rfl, rfl, (by rw [List.length_map, List.length_cons]; omega), l, _, _, .int ((z :: zs)[(t % ((((z :: zs).map V.int).length : Nat) : Int)).toNat]), rfl, rfl, sq_of hls2, at_of (j := (t % ((((z :: zs).map V.int).length : Nat) : Int)).toNat) (by omega) ?_, ?_⟩⟩
          · rw [List.getElem?_map, List.getElem?_eq_getElem hk]
            rfl
          · exact ⟨_, rfl, hx2⟩
      · rintro σ' H2 ⟨c, rfl, hx2⟩
        have hat2 := hx2 p _ hat1
        have hls2 := hx2 l _ hls1
        have hx12 : ExP p H H2 := hx1.trans (Ex.p hx2)
        have hpow : ((10 : Int) ^ (18 : Int).toNat) = 1000000000000000000 := by decide
        have fin : ∀ (rr : Int) (H3 : Hp), ExP p H2 H3 → H3 p = some (.lst [.ref l, .int (t + 1), .int rr]) → ∀ v, 0 ≤ v → v < m → Q (.int v) H3 := fun rr H3 hx3 h3 v v0 v1 =>
          q v H3 v0 v1 (hx12.trans hx3) ⟨⟨t + 1, rr, h3, by omega, by omega⟩, hx3 l _ hne hls2, hne, hfew⟩
        refine ⟨fun σ' H' => σ' = [some (.ref p), some (.int m), none, some (.int t), some (.int c), none] ∧ H' = H2, ?_, ?_⟩
        · refine ⟨.int t, rfl, .ref p, rfl, p, _, 0, .ref l, rfl, rfl, sq_of hat2, rfl, l, _, rfl, .inl (sq_of hls2), _, _, rfl, rfl, _, rfl, ite2 (fun h1 => ?_) (fun h1 => iteF ⟨rfl, rfl⟩)⟩
          refine ⟨.int c, rfl, c, rfl, 10, 18, rfl, rfl, ⟨by decide, by decide, by decide⟩, _, _, rfl, rfl, _, rfl, ite2 (fun h2 => ?_) (fun h2 => ⟨rfl, rfl⟩)⟩
          refine ⟨.int c, rfl, c, rfl, 10, 18, rfl, rfl, ⟨by decide, by decide, by decide⟩, _, _, rfl, rfl, 2, _, rfl, rfl, .inl ⟨by decide, by decide⟩, .int c, rfl, _, _, rfl, rfl, .inr ⟨_, rfl, _, _, rfl, rfl, ?_⟩⟩
          refine ⟨_, rfl, .int m, rfl, _, m, rfl, rfl, ⟨hm0, by omega⟩, .ref p, rfl, p, _, 2, 2, rfl, rfl, hat2, rfl, ?_⟩
          refine ⟨_, rfl, .inl ⟨_, rfl, .int m, rfl, _, m, rfl, rfl, hm0, ?_⟩⟩
          exact fin _ _ ExP.upd upd_same _ (Int.emod_nonneg _ (by omega)) (Int.emod_lt_of_pos _ hm0)
        · rintro σ' H' ⟨rfl, rfl⟩
          refine ⟨.int c, rfl, .inl ⟨c, rfl, c, 2147483579, rfl, rfl, (show (0 : Int) < 2147483579 by decide), .int t, rfl, 90121, t, rfl, rfl, .inl ⟨by decide, by decide⟩, _, _, rfl, rfl, _, 5009, rfl, rfl, _, 5, rfl, rfl, ⟨by decide, by decide, mix1 ht0 (by omega)⟩, .inl ⟨_, rfl, _, 2147483563, rfl, rfl, (show (0 : Int) < 2147483563 by decide), ?_⟩⟩⟩
          generalize (c % 2147483579 + 90121 * t + 5009) ^ (5 : Int).toNat = x5
          have b0 := Int.emod_nonneg x5 (show (2147483563 : Int) ≠ 0 by decide)
          have b1 := Int.emod_lt_of_pos x5 (show (0 : Int) < 2147483563 by decide)
          refine ⟨.int (x5 % 2147483563), rfl, .int t, rfl, 2, t, rfl, rfl, .inl ⟨by decide, by decide⟩, _, 3011, rfl, rfl, _, _, rfl, rfl, .inl ⟨by omega, by omega⟩, .int t, rfl, 71129, t, rfl, rfl, .inl ⟨by decide, by decide⟩, .int t, rfl, _, t, rfl, rfl, .inl ⟨by omega, by omega⟩, _, _, rfl, rfl, _, 90121, rfl, rfl, _, 3, rfl, rfl, ⟨by decide, by decide, mix2 ht0 (by omega)⟩, .inl ⟨_, rfl, _, 2147483629, rfl, rfl, (show (0 : Int) < 2147483629 by decide), ?_⟩⟩
          generalize (x5 % 2147483563 * (2 * t + 3011) + 71129 * t * t + 90121) ^ (3 : Int).toNat = x3
          refine ⟨.int (x3 % 2147483629), rfl, _, 64, rfl, rfl, ⟨by decide, by decide⟩, .inl ⟨_, rfl, .int m, rfl, _, m, rfl, rfl, hm0, ?_⟩⟩
          exact fin r H' (ExP.refl p H') hat2 _ (Int.emod_nonneg _ (by omega)) (Int.emod_lt_of_pos _ hm0)
end
end KS
namespace KS
open PySem PySem.Spec PyProof.Rows L2 KR KM Evl StX
section
variable {P : Program} {w : World} {K : PySem.W.Frag} {mg : Str → Option Value} {base : Heap}
/-! ### _law_pick -/
abbrev sPick : Stmt := topS 12
theorem scPick : FnScope ["_law_pen_here", "_law_some"] ["_law_pen_here", "_law_some"] (defScope sPick) := ⟨rfl, rfl, rfl, by decide +kernel, rfl, by decide +kernel, by decide +kernel⟩
def spPick (K : PySem.W.Frag) : Sp := fun vs H Q _ => ∃ (p a l : Addr) (ns : List Int) (n : Int) (xs : List V), vs = [.ref p, .ref a] ∧ Pen H p l ns n ∧ n ≤ 100000 ∧ SqL K H a xs ∧ a ≠ p ∧ xs ≠ [] ∧ xs.length ≤ 1000 ∧
  ∀ x H2, x ∈ xs → ExP p H H2 → Pen H2 p l ns (n + 1) → Q x H2
theorem ok_pick {f : Addr} {fd : FuncData} {k : Nat} (F : Fun K "_law_pick" "_law_pick" sPick f fd) (B : Bu mg) (D : FnA K mg "_law_draw" sDraw ["_law_pen_here", "_law_many"]) : FnOk P w K mg base CX0 (k + 2) f fd ["_law_pen_here", "_law_some"] (spPick K) := by
  have GD : FnOk P w K mg base CX0 (k + 1) D.f D.fd ["_law_pen_here", "_law_many"] spDraw := ok_draw D.F B
  refine F.ok scPick (fun vs H Q E h => ?_) (fun cdv A outer s H vs Q E hr h => ?_)
  · obtain ⟨p, a, l, ns, n, xs, rfl, _⟩ := h
    rfl
  · obtain ⟨p, a, l, ns, n, xs, rfl, hp, hn, hS, hap, hne, hl, q⟩ := h
    refine ⟨_, pss_one (ps_ret (pe_ix ix_list (pv 1) (pe_call GD hr (by rfl) D.g D.F.kp D.b .nil pass0 (pa_cons (pv 0) (pa_cons (pe_callB call_len_seq rfl B.len PySem.boot_len (pa_cons (pv 1) pa_nil)) pa_nil))) (fun _ _ => rfl))), ?_⟩
    have hpos : 0 < xs.length := List.length_pos_iff.mpr hne
    refine ⟨.ref a, rfl, .ref p, rfl, .ref a, rfl, a, xs, rfl, .inl hS, ?_⟩
    refine ⟨p, l, ns, n, _, rfl, hp, hn, by omega, by omega, fun v H2 v0 v1 e hp2 => ?_⟩
    have hi : v.toNat < xs.length := by omega
    exact ⟨a, xs, v, xs[v.toNat], rfl, rfl, exp_l e hap hS, at_of (j := v.toNat) (by omega) (List.getElem?_eq_getElem hi), q _ H2 (List.getElem_mem hi) e hp2⟩
/-! ### _law_lot -/
abbrev sLot : Stmt := topS 14
theorem scLot : FnScope ["_law_pen_here", "_law_width", "_law_mark"] ["_law_pen_here", "_law_width"] (defScope sLot) := ⟨rfl, rfl, rfl, by decide +kernel, rfl, by decide +kernel, by decide +kernel⟩
/-- a lot below a width -/
structure Lot (l : List Int) (m : Int) : Prop where
  asc : l.Pairwise (· < ·)
  low : ∀ x ∈ l, 0 ≤ x ∧ x < m
theorem Lot.len {l : List Int} {m : Nat} (h : Lot l (m : Int)) : l.length ≤ m := by
  have nd : l.Nodup := h.asc.imp fun z => by omega
  have := List.Nodup.length_le_of_subset (l₂ := (List.range m).map Int.ofNat) nd fun x hx => by
    obtain ⟨a, b⟩ := h.low x hx
    exact List.mem_map.mpr ⟨x.toNat, List.mem_range.mpr (by omega), by show ((x.toNat : Nat) : Int) = x; omega⟩
  rw [List.length_map, List.length_range] at this
  exact this
def spLot (K : PySem.W.Frag) : Sp := fun vs H Q _ => ∃ (p l : Addr) (ns : List Int) (n : Int) (m : Nat), vs = [.ref p, .int (m : Int)] ∧ Pen H p l ns n ∧ n + m ≤ 100000 ∧ m ≤ 100 ∧
  ∀ a lot H2, H a = none → Lot lot (m : Int) → ExP p H H2 → Pen H2 p l ns (n + m) → H2 a = some (.tup (lot.map V.int)) → Q (.ref a) H2
theorem ok_lot {f : Addr} {fd : FuncData} {k : Nat} (F : Fun K "_law_lot" "_law_lot" sLot f fd) (B : Bu mg) (D : FnA K mg "_law_draw" sDraw ["_law_pen_here", "_law_many"]) : FnOk P w K mg base CX0 (k + 2) f fd ["_law_pen_here", "_law_width"] (spLot K) := by
  have GD : FnOk P w K mg base CX0 (k + 1) D.f D.fd ["_law_pen_here", "_law_many"] spDraw := ok_draw D.F B
  refine F.ok scLot (fun vs H Q E h => ?_) (fun cdv A outer s H vs Q E hr h => ?_)
  · obtain ⟨p, l, ns, n, m, rfl, _⟩ := h
    rfl
  · obtain ⟨p, l, ns, n, m, rfl, hp, hn, hm, q⟩ := h
    refine ⟨_, pss_one (ps_ret (pe_tupleOf rfl B.tuple (pe_lc (own := [("_law_mark", 2)]) (g := gName 2) rfl scLot.nd (pi_range1 rfl B.range (pa_cons (pv 1) pa_nil)) (blkOk_by (N := ["_law_pen_here", "_law_width", "_law_mark"]) (sc := defScope sLot) (by decide +kernel))
        (fun _ _ _ _ _ => pg_name (i := 2) scLot.nd rfl (Or.inl rfl)) (fun _ _ _ _ _ => pts_one (pt_cmpR op_eq (pe_call GD hr (by rfl) D.g D.F.kp D.b .nil pass0 (pa_cons (pv 0) (pa_cons pe_int pa_nil))) pe_int (nomark _))) (fun _ _ _ _ _ => pv 2)))), ?_⟩
    refine ⟨_, rfl, (m : Int), rfl, by omega, by omega, fun D' hD => ?_⟩
    have hDp := hp.some hD
    refine lc_it walk_range (fun i H' => ExP p H H' ∧ Pen H' p l ns (n + i) ∧ ∃ lot, H' D' = some (.lst (lot.map V.int)) ∧ Lot lot (i : Int)) ⟨(Ex.p (Ex.new hD)), (hp.up (Ex.new hD)).more (by omega), [], upd_same, .nil, fun x hx => by cases hx⟩ (fun _ _ _ _ => trivial) ?_ ?_
    · rintro i x H1 H2 hi ⟨e1, hp1, lot, hd1, hlot⟩ ⟨rfl, rfl⟩
      have hi : i < m := by omega
      refine ⟨rfl, .ref p, rfl, p, l, ns, n + i, 3, rfl, hp1, by omega, by decide, by decide, fun v H3 v0 v1 e2 hp2 => ?_⟩
      have hd3 : H3 D' = some (.lst (lot.map V.int)) := e2 D' _ hDp hd1
      have hlen := hlot.len
      refine ⟨rfl, _, rfl, ite2 (fun h => ?_) (fun h => ?_)⟩
      · refine ⟨_, rfl, lot.map V.int, hd3, by rw [List.length_map]; exact sz_lt (by omega), ?_, ?_, lot ++ [(i : Int)], ?_, ?_⟩
        · intro b o nb hb
          have : b ≠ D' := ne_of_none hb hD
          rw [upd_ne this]
          exact e2 b o nb (e1 b o nb hb)
        · obtain ⟨t, r, a1, a2, a3⟩ := hp2.at_
          refine ⟨⟨t, r, by rw [upd_ne hDp.symm]; exact a1, a2, by omega⟩, ?_, hp2.ne, hp2.few⟩
          have hlD : l ≠ D' := by
            intro z
            have h1 := hp.ls
            rw [z, hD] at h1
            cases h1
          rw [upd_ne hlD]
          exact hp2.ls
        · rw [upd_same, List.map_append]
          show some (HO.lst (lot.map V.int ++ [V.int (0 + (i : Int))])) = _
          rw [Int.zero_add]
          rfl
        · refine ⟨List.pairwise_append.mpr ⟨hlot.asc, by simp, fun a ha b hb => ?_⟩, fun x hx => ?_⟩
          · have h1 := (hlot.low a ha).2
            have h2 : b = (i : Int) := by simpa using hb
            omega
          · rcases List.mem_append.mp hx with h1 | h1
            · have := hlot.low x h1
              omega
            · have h2 : x = (i : Int) := by simpa using h1
              omega
      · exact ⟨e1.trans e2, hp2.more (by omega), lot, hd3, hlot.asc, fun x hx => by have := hlot.low x hx; omega⟩
    · rintro H1 ⟨e1, hp1, lot, hd1, hlot⟩
      refine .inl ⟨D', _, rfl, sq_of hd1, fun a ha => ?_⟩
      have hm2 : ((m : Int).toNat : Int) = (m : Int) := by omega
      rw [hm2] at hlot hp1
      have hHa : H a = none := by
        cases h : H a with
        | none => rfl
        | some o =>
          by_cases hpa : a = p
          · subst hpa
            obtain ⟨t, r, a1, _⟩ := hp1.at_
            rw [a1] at ha
            cases ha
          · rw [e1 a o hpa h] at ha
            cases ha
      exact q a lot _ hHa hlot (e1.trans (Ex.p (Ex.new ha))) (hp1.up (Ex.new ha)) upd_same
end
end KS
namespace KS
open PySem PySem.Spec PyProof.Rows L2 KR KM Evl StX
/-! ### rows by their places -/
theorem range_getD {α : Type} (d : α) (l : List α) : (List.range l.length).map (fun i => l.getD i d) = l := by
  refine List.ext_getElem? fun i => ?_
  rw [List.getElem?_map]
  by_cases hi : i < l.length
  · rw [List.getElem?_range hi, List.getElem?_eq_getElem hi]
    show some (l.getD i d) = _
    rw [List.getD_eq_getElem?_getD, List.getElem?_eq_getElem hi]
    rfl
  · rw [List.getElem?_eq_none (l := List.range l.length) (by simpa using hi), List.getElem?_eq_none (by omega)]
    rfl
theorem given_filter {α : Type} (d : α) (l : List α) (p : α → Bool) (v : α → V) : given l.length (fun i => p (l.getD i d)) (fun i => v (l.getD i d)) = (l.filter p).map v := by
  unfold given
  conv => rhs; rw [← range_getD d l, List.filter_map, List.map_map]
  rfl
theorem given_of {α : Type} (d : α) (l : List α) {n : Nat} (hn : n = l.length) (p : α → Bool) (v : α → V) : given n (fun i => p (l.getD i d)) (fun i => v (l.getD i d)) = (l.filter p).map v := by
  rw [hn]
  exact given_filter d l p v
theorem getD_at {α : Type} {d : α} {l : List α} {i : Nat} {x : α} (h : l[i]? = some x) : l.getD i d = x := by
  rw [List.getD_eq_getElem?_getD, h]
  rfl
theorem inV_ints (x : Int) : ∀ l : List Int, inV (.int x) (l.map V.int) = decide (x ∈ l)
  | [] => rfl
  | y :: l => by
    have ih := inV_ints x l
    unfold inV at ih ⊢
    rw [List.map_cons, List.any_cons, ih]
    show ((y == x) || decide (x ∈ l)) = decide (x ∈ y :: l)
    by_cases h : y = x
    · subst h; simp
    · have h2 : (y == x) = false := beq_eq_false_iff_ne.mpr h
      have h3 : ¬ x = y := fun z => h z.symm
      simp [h2, h3]
theorem flat_ints (l : List Int) : (l.map V.int).all flatV = true := by
  rw [List.all_map]
  exact List.all_eq_true.mpr fun _ _ => rfl
theorem int_at {l : List Int} {i : Nat} {z : V} (h : (l.map V.int)[i]? = some z) : ∃ n, l[i]? = some n ∧ z = .int n := by
  rw [List.getElem?_map] at h
  cases e : l[i]? with
  | none => rw [e] at h; cases h
  | some n => rw [e] at h; exact ⟨n, rfl, (Option.some.inj h).symm⟩
theorem count_lots {x : Int} : ∀ {ls : List (List Int)}, (∀ l ∈ ls, l.Nodup) → ls.flatten.count x = (ls.filter fun l => decide (x ∈ l)).length
  | [], _ => rfl
  | l :: ls, h => by
    rw [List.flatten_cons, List.count_append, count_lots fun m hm => h m (List.mem_cons_of_mem _ hm), List.filter_cons]
    have hn := h l List.mem_cons_self
    by_cases hx : x ∈ l
    · have c : l.count x = 1 := by
        have h1 := List.nodup_iff_count.mp hn x
        have h2 := List.one_le_count_iff.mpr hx
        omega
      rw [c, decide_eq_true hx]
      simp
      omega
    · rw [List.count_eq_zero.mpr hx, decide_eq_false hx]
      simp
abbrev rInt1 : List V → Hp → VK → Prop := fun xs H Q => (∃ i, xs = [V.int i] ∧ Q (.int i) H) ∨ ∃ k, xs = [V.bl k] ∧ Q (.int (if k then 1 else 0)) H
theorem cb_op0 {K : PySem.W.Frag} {te : TE} {σ : L2.St} {H : Hp} {Q : Bool → Hp → Prop}
    (h : te σ H (fun x H1 => rLenS K [x] H1 fun y H2 => rInt1 [y] H2 fun u H3 => rI (fun _ j => 0 < j) (fun i j => .int (i % j)) u (.int 2) H3 fun z H4 => rEq z (.int 1) H4 fun b H5 => ∃ c, b = .bl c ∧ Q c H5)) :
    tTest (tOp rEq (tOp (rI (fun _ j => 0 < j) fun i j => .int (i % j)) (tCB rInt1 (tCons (tCB (rLenS K) (tCons te tNil)) tNil)) (tC (.int 2))) (tC (.int 1))) σ H Q := h
section
variable {P : Program} {w : World} {K : PySem.W.Frag} {mg : Str → Option Value} {base : Heap}
/-! ### _law_sum -/
abbrev sLS : Stmt := topS 13
abbrev nLS : List Str := ["_law_lots", "_law_marks", "_law_lot_here", "_law_mark"]
theorem scLS : FnScope nLS ["_law_lots"] (defScope sLS) := ⟨rfl, rfl, rfl, by decide +kernel, rfl, by decide +kernel, by decide +kernel⟩
abbrev tOddIn (K : PySem.W.Frag) : TT := tTest (tOp rEq (tOp (rI (fun _ j => 0 < j) fun i j => .int (i % j)) (tCB rInt1 (tCons (tCB (rLenS K) (tCons (tLc (iSeq K (tVar 0)) (gName 2) (tTest (tOp (rIn K false) (tVar 3) (tVar 2))) (tC (.int 1)) [2]) tNil)) tNil)) (tC (.int 2))) (tC (.int 1)))
def spLS (K : PySem.W.Frag) : Sp := fun vs H Q _ => ∃ (v : V) (ls : List (List Int)), vs = [v] ∧ LotsR K H v ls ∧ ls.flatten.length ≤ 5000 ∧ ls.length ≤ 5000 ∧ (∀ l ∈ ls, l.Nodup) ∧ RetT (sum2 ls) H Q
theorem ok_ls {f : Addr} {fd : FuncData} {k : Nat} (F : Fun K "_law_sum" "_law_sum" sLS f fd) (B : Bu mg) : FnOk P w K mg base CX0 (k + 1) f fd ["_law_lots"] (spLS K) := by
  refine F.ok scLS (fun vs H Q E h => ?_) (fun cdv A outer s H vs Q E hr h => ?_)
  · obtain ⟨v, ls, rfl, _⟩ := h
    rfl
  · obtain ⟨v, ls, rfl, hLs, hz, hz2, hnd, q⟩ := h
    obtain ⟨a, xs, rfl, hS, hP⟩ := hLs
    refine ⟨_, pss_cons (ps_set (i := 1) scLS.nd rfl (Or.inr rfl) (pe_lst pa_nil))
      (pss_cons (ps_for PassesOwn.never rfl (pi_seq (pv 0)) (pg_name (i := 2) scLS.nd rfl (.inl rfl))
        (pss_one (ps_expr (pe_bm PySem.F.plainAttrs_list PySem.F.slot_list_extend PySem.F.type_list_extend mt_extend (pv 1) (pa_cons
          (pe_lc (own := [("_law_mark", 3)]) (g := gName 3) (tt := tTest (tOp (rIn K true) (tVar 3) (tVar 1))) rfl scLS.nd (pi_seq (pv 2)) (blkOk_by (N := nLS) (sc := defScope sLS) (by decide +kernel))
            (fun _ _ _ _ _ => pg_name (i := 3) scLS.nd rfl (Or.inl rfl)) (fun _ _ _ _ _ => pts_one (pt_cmpR op_notIn_seq (pv 3) (pv 1) (by rfl))) (fun _ _ _ _ _ => pv 3)) pa_nil)))))
      (pss_one (ps_ret (pe_tupleOf rfl B.tuple (pe_callB cr_sortedI rfl B.sorted boot_sorted (pa_cons
        (pe_lc (own := [("_law_mark", 3)]) (g := gName 3) (tt := tOddIn K) rfl scLS.nd (pi_seq (pv 1)) (blkOk_by (N := nLS) (sc := defScope sLS) (by decide +kernel))
            (fun _ _ _ _ _ => pg_name (i := 3) scLS.nd rfl (Or.inr rfl))
            (fun _ _ _ _ _ => pts_one (pt_cmpR op_eq (pe_op op_mod (pe_callTy call_int1 rfl B.int boot_int (pa_cons (pe_callB call_len_seq rfl B.len PySem.boot_len (pa_cons
                (pe_lc (own := [("_law_lot_here", 2)]) (g := gName 2) rfl scLS.nd (pi_seq (pv 0)) (blkOk_by (N := nLS) (sc := relS _ (defScope sLS)) (by decide +kernel)) (fun _ _ _ _ _ => pg_name (i := 2) scLS.nd rfl (Or.inl rfl)) (fun _ _ _ _ _ => pts_one (pt_cmpR op_in_seq (pv 3) (pv 2) (by rfl))) (fun _ _ _ _ _ => pe_int)) pa_nil)) pa_nil)) pe_int) pe_int (nomark _)))
            (fun _ _ _ _ _ => pv 3)) pa_nil)))))), ?_⟩
    have hxl : xs.length = ls.length := Paired.length hP
    refine q_as (l_op ⟨Nat.zero_le _, fun m hm => ?_⟩)
    have hxm : Ex H (upd H m (.lst [])) := Ex.new hm
    refine s_forSq (K := K) (H0 := H) (a := a) (xs := xs) (ev_var rfl) hS hxm (fun i σ' H' => ∃ (ms : List Int) (y2 : Option V), σ' = [some (.ref a), some (.ref m), y2, none] ∧ Ex H H' ∧ H' m = some (.lst (ms.map V.int)) ∧ ms.Nodup ∧ ∀ x, x ∈ ms ↔ x ∈ (ls.take i).flatten)
      (fun H1 e => ⟨[], none, rfl, hxm.trans e, e m _ upd_same, .nil, fun x => by simp⟩) (fun i σ' H' _ ⟨_, _, _, e, _⟩ => e) ?_ ?_
    · rintro i x σ' H1 hi ⟨ms, y2, rfl, e1, hms, nd, hmem⟩
      obtain ⟨l, hl, hR⟩ := pget hP hi
      obtain ⟨b, rfl, hb⟩ := hR.up e1
      have hlm := List.mem_of_getElem? hl
      have hlens := flat_get_le hl
      rw [List.length_append] at hlens
      have hmsl : ms.length ≤ (ls.take i).flatten.length := List.Nodup.length_le_of_subset nd fun x hx => (hmem x).mp hx
      have comp := el_lcSq (K := K) (σ := [some (V.ref a), some (V.ref m), some (V.ref b), none]) (H := H1) (a := b) (xs := l.map V.int) (tl := tVar 2) (te := tVar 3) (t := tTest (tOp (rIn K true) (tVar 3) (tVar 1))) (j := 3) (vs := [3])
        (fun i => !decide (l.getD i 0 ∈ ms)) (fun i => V.int (l.getD i 0)) (ev_var rfl) hb (by rw [List.length_map]; omega) (fun _ => rfl)
        (fun i x H2 e2 hx => by
          obtain ⟨n, hn, rfl⟩ := int_at hx
          rw [getD_at hn, ← inV_ints]
          exact et_test (ev_op (ev_var rfl) (ev_var rfl) (rv_niL (sq_of (e2 m _ hms)) rfl (flat_ints ms))))
        (fun i x H2 e2 hx _ => by
          obtain ⟨n, hn, rfl⟩ := int_at hx
          rw [getD_at hn]
          exact ev_var rfl)
      rw [given_of 0 l (by rw [List.length_map]) (fun x => !decide (x ∈ ms)) V.int] at comp
      refine ⟨.ref m, rfl, .inl ⟨rfl, _, sq_of hms⟩, comp H1 (Ex.refl H1) _ fun p H2 hp e2 h2 => ?_⟩
      have hf : (l.filter fun x => !decide (x ∈ ms)).length ≤ l.length := List.length_filter_le _ _
      refine ⟨m, p, _, _, rfl, rfl, e2 m _ hms, h2, sz_of (by rw [List.length_map, List.length_map]; omega), ms ++ l.filter fun x => !decide (x ∈ ms), _, rfl, Ex.mut (e1.trans e2) hm, by rw [upd_same, List.map_append], ?_, fun x => ?_⟩
      · refine List.nodup_append.mpr ⟨nd, List.Pairwise.filter _ (hnd l hlm), fun x hx y hy e => ?_⟩
        subst e
        have := (List.mem_filter.mp hy).2
        simp [hx] at this
      · rw [take_succ_flat hl, List.mem_append, List.mem_append, List.mem_filter]
        by_cases hx : x ∈ (ls.take i).flatten
        · have hx1 := (hmem x).mpr hx
          simp [hx, hx1]
        · have hx2 : ¬ x ∈ ms := fun z => hx ((hmem x).mp z)
          simp [hx, hx2]
    · rintro σ' H1 ⟨ms, y2, rfl, e1, hms, nd, hmem⟩
      rw [hxl, List.take_length] at hmem
      have hmsl : ms.length ≤ ls.flatten.length := List.Nodup.length_le_of_subset nd fun x hx => (hmem x).mp hx
      have comp := el_lcSq (K := K) (σ := [some (V.ref a), some (V.ref m), y2, none]) (H := H1) (a := m) (xs := ms.map V.int) (tl := tVar 1) (te := tVar 3) (t := tOddIn K) (j := 3) (vs := [3])
        (fun i => decide (ls.flatten.count (ms.getD i 0) % 2 = 1)) (fun i => V.int (ms.getD i 0)) (ev_var rfl) (.inl (sq_of hms)) (by rw [List.length_map]; omega) (fun _ => rfl)
        (fun i x H2 e2 hx => by
          obtain ⟨n, hn, rfl⟩ := int_at hx
          rw [getD_at hn, count_lots hnd]
          have inner := el_lcSq (K := K) (σ := [some (V.ref a), some (V.ref m), y2, some (V.int n)]) (H := H2) (a := a) (xs := xs) (tl := tVar 0) (te := tC (.int 1)) (t := tTest (tOp (rIn K false) (tVar 3) (tVar 2))) (j := 2) (vs := [2])
            (fun i => decide (n ∈ ls.getD i [])) (fun _ => V.int 1) (ev_var rfl) (hS.up (e1.trans e2)) (by omega) (fun _ => rfl)
            (fun i x H3 e3 hx => by
              obtain ⟨l, hl, hR⟩ := pget hP hx
              obtain ⟨b, rfl, hb⟩ := hR.up ((e1.trans e2).trans e3)
              rw [getD_at hl, ← inV_ints]
              rcases hb with hb | hb
              · exact et_test (ev_op (ev_var rfl) (ev_var rfl) (rv_isL hb rfl (flat_ints l)))
              · exact et_test (ev_op (ev_var rfl) (ev_var rfl) (rv_isT hb rfl (flat_ints l))))
            (fun i x H3 e3 hx _ => fun H4 e4 Q4 q4 => q4 H4 (Ex.refl H4))
          rw [given_of [] ls hxl (fun l => decide (n ∈ l)) (fun _ => V.int 1)] at inner
          intro H4 e4 Q4 q4
          refine cb_op0 (inner H4 e4 _ fun p H5 hp e5 h5 => ⟨p, _, rfl, .inl (sq_of h5), .inl ⟨_, rfl, _, 2, rfl, rfl, (show (0 : Int) < 2 by decide), rfl, _, rfl, ?_⟩⟩)
          rw [List.length_map]
          have eb : decide (V.int (((ls.filter fun l => decide (n ∈ l)).length : Nat) % 2 : Int) = V.int 1) = decide ((ls.filter fun l => decide (n ∈ l)).length % 2 = 1) := by
            generalize (ls.filter fun l => decide (n ∈ l)).length = c
            refine decide_eq_decide.mpr ⟨fun h => ?_, fun h => ?_⟩
            · have := V.int.inj h
              omega
            · congr 1
              omega
          rw [eb]
          exact q4 H5 e5)
        (fun i x H2 e2 hx _ => by
          obtain ⟨n, hn, rfl⟩ := int_at hx
          rw [getD_at hn]
          exact ev_var rfl)
      rw [given_of 0 ms (by rw [List.length_map]) (fun x => decide (ls.flatten.count x % 2 = 1)) V.int] at comp
      refine s_re (th_op (cb_op (a_op (comp H1 (Ex.refl H1) _ fun p H2 hp e2 h2 => ?_))))
      refine ⟨p, _, rfl, sq_of h2, fun ns' p3 hperm hsort hp3 => .inl ⟨p3, _, rfl, sq_of upd_same, fun r hr => ?_⟩⟩
      have e3 : Ex H (upd H2 p3 (.lst (ns'.map V.int))) := (e1.trans e2).trans (Ex.new hp3)
      have en : ns' = sum2 ls := sort_is hperm hsort (List.Pairwise.filter _ nd) (sum2_pw ls) fun x => by
        rw [List.mem_filter, mem_sum2, decide_eq_true_iff]
        refine ⟨fun h => h.2, fun h => ⟨(hmem x).mpr (List.one_le_count_iff.mp (by omega)), h⟩⟩
      refine q r _ (fresh_back e3 hr) (e3.trans (Ex.new hr)) ?_
      rw [upd_same, en]
end
end KS
namespace KS
open PySem PySem.Spec PyProof.Rows L2 KR KM Evl StX
/-! ### all choices -/
def choices : Nat → List (List Int)
  | 0 => [[]]
  | n + 1 => choices n ++ (choices n).map (· ++ [(n : Int)])
theorem choices_len (n : Nat) : (choices n).length = 2 ^ n := by
  induction n with
  | zero => rfl
  | succ n ih =>
    show (choices n ++ (choices n).map (· ++ [(n : Int)])).length = _
    rw [List.length_append, List.length_map, ih, Nat.pow_succ]
    omega
theorem choices_low : ∀ (n : Nat), ∀ c ∈ choices n, c.Pairwise (· < ·) ∧ ∀ x ∈ c, 0 ≤ x ∧ x < (n : Int)
  | 0, c, h => by
    have e : c = [] := by simpa [choices] using h
    subst e
    exact ⟨.nil, fun x hx => by cases hx⟩
  | n + 1, c, h => by
    have h : c ∈ choices n ++ (choices n).map (· ++ [(n : Int)]) := h
    rcases List.mem_append.mp h with h | h
    · obtain ⟨h1, h2⟩ := choices_low n c h
      exact ⟨h1, fun x hx => by have := h2 x hx; omega⟩
    · obtain ⟨d, hd, rfl⟩ := List.mem_map.mp h
      obtain ⟨h1, h2⟩ := choices_low n d hd
      refine ⟨List.pairwise_append.mpr ⟨h1, by simp, fun a ha b hb => ?_⟩, fun x hx => ?_⟩
      · have := h2 a ha
        have e : b = (n : Int) := by simpa using hb
        omega
      · rcases List.mem_append.mp hx with h | h
        · have := h2 x h
          omega
        · have e : x = (n : Int) := by simpa using h
          omega
theorem choices_all : ∀ (n : Nat) (c : List Int), c.Pairwise (· < ·) → (∀ x ∈ c, 0 ≤ x ∧ x < (n : Int)) → c ∈ choices n
  | 0, c, h1, h2 => by
    cases c with
    | nil => simp [choices]
    | cons x c => have := h2 x List.mem_cons_self; omega
  | n + 1, c, h1, h2 => by
    show c ∈ choices n ++ (choices n).map (· ++ [(n : Int)])
    rw [List.mem_append]
    rcases List.eq_nil_or_concat c with rfl | ⟨d, z, rfl⟩
    · exact .inl (choices_all n [] .nil fun x hx => by cases hx)
    · rw [List.concat_eq_append] at h1 h2 ⊢
      obtain ⟨p1, _, p3⟩ := List.pairwise_append.mp h1
      have hz := h2 z (by simp)
      by_cases e : z = (n : Int)
      · subst e
        refine .inr (List.mem_map.mpr ⟨d, choices_all n d p1 fun x hx => ?_, rfl⟩)
        have a := h2 x (List.mem_append_left _ hx)
        have b := p3 x hx (n : Int) (by simp)
        omega
      · refine .inl (choices_all n _ h1 fun x hx => ?_)
        rcases List.mem_append.mp hx with h | h
        · have a := h2 x (List.mem_append_left _ h)
          have b := p3 x h z (by simp)
          omega
        · have e2 : x = z := by simpa using h
          omega
section
variable {P : Program} {w : World} {K : PySem.W.Frag} {mg : Str → Option Value} {base : Heap}
abbrev sCho : Stmt := topS 15
abbrev nCho : List Str := ["_law_many", "_law_found", "_law_number", "_law_some"]
theorem scCho : FnScope nCho ["_law_many"] (defScope sCho) := ⟨rfl, rfl, rfl, by decide +kernel, rfl, by decide +kernel, by decide +kernel⟩
abbrev isL (o : HO) (c : List Int) : Prop := o = .lst (c.map V.int)
def spCho : Sp := fun vs H Q _ => ∃ n : Nat, vs = [.int (n : Int)] ∧ n ≤ 10 ∧ ∀ p us H2, H p = none → Ex H H2 → H2 p = some (.lst us) → Paired (Ob isL H2) us (choices n) → Q (.ref p) H2
theorem ob_up {H H' : Hp} (e : Ex H H') {us : List V} {cs : List (List Int)} (h : Paired (Ob isL H) us cs) : Paired (Ob isL H') us cs := L2.Paired.mapP h fun _ _ r => r.up e
theorem paired_append {α β : Type} {F : α → β → Prop} : ∀ {xs us : List α} {ys vs : List β}, Paired F xs ys → Paired F us vs → Paired F (xs ++ us) (ys ++ vs)
  | _, _, _, _, .nil, h => h
  | _, _, _, _, .cons r t, h => .cons r (paired_append t h)
theorem ok_cho {f : Addr} {fd : FuncData} {k : Nat} (F : Fun K "_law_choices" "_law_choices" sCho f fd) (B : Bu mg) : FnOk P w K mg base CX0 (k + 1) f fd ["_law_many"] spCho := by
  refine F.ok scCho (fun vs H Q E h => ?_) (fun cdv A outer s H vs Q E hr h => ?_)
  · obtain ⟨n, rfl, _⟩ := h
    rfl
  · obtain ⟨n, rfl, hn, q⟩ := h
    refine ⟨_, pss_cons (ps_set (i := 1) scCho.nd rfl (Or.inl rfl) (pe_lst (pa_cons (pe_lst pa_nil) pa_nil)))
      (pss_cons (ps_for PassesOwn.never rfl (pi_range1 rfl B.range (pa_cons (pv 0) pa_nil)) (pg_name (i := 2) scCho.nd rfl (.inr rfl))
        (pss_one (ps_set (i := 1) scCho.nd rfl (Or.inl rfl) (pe_op op_cat (pv 1)
          (pe_lc (own := [("_law_some", 3)]) (g := gName 3) (te := tOp rCat (tVar 3) (tLst (tCons (tVar 2) tNil))) rfl scCho.nd (pi_seq (pv 1)) (blkOk_by (N := nCho) (sc := defScope sCho) (by decide +kernel))
            (fun _ _ _ _ _ => pg_name (i := 3) scCho.nd rfl (Or.inl rfl)) (fun _ _ _ _ _ => pts_nil) (fun _ _ _ _ _ => pe_op op_cat (pv 3) (pe_lst (pa_cons (pv 2) pa_nil))))))))
      (pss_one (ps_ret (pv 1)))), ?_⟩
    refine q_as (l_op (a_op (l_op ⟨Nat.zero_le _, fun m hm => ⟨sz_of (by simp), fun d hd => ?_⟩⟩)))
    have e0 : Ex H (upd (upd H m (.lst [])) d (.lst [.ref m])) := (Ex.new hm).trans (Ex.new hd)
    have hdH : H d = none := fresh_back (Ex.new hm) hd
    have hmd : m ≠ d := fun z => by rw [z, ← z, upd_same] at hd; cases hd
    refine ⟨.int (n : Int), rfl, (n : Int), rfl, by omega, by omega, ?_⟩
    refine for_it walk_range (fun i σ' H' => ∃ d us y2, σ' = [some (.int (n : Int)), some (.ref d), y2, none] ∧ Ex H H' ∧ H d = none ∧ H' d = some (.lst us) ∧ Paired (Ob isL H') us (choices i))
      ⟨d, _, none, rfl, e0, hdH, upd_same, .cons ⟨m, _, rfl, by rw [upd_ne hmd]; exact upd_same, rfl⟩ .nil⟩ (fun _ _ _ _ _ => trivial) ?_ ?_
    · rintro i x σ' H1 H2 hi ⟨d, us, y2, rfl, e1, hd0, hd1, hP⟩ ⟨rfl, rfl⟩
      have hi : i < n := by omega
      have hul : us.length = (choices i).length := Paired.length hP
      have h2i : 2 ^ i ≤ 2 ^ 10 := Nat.pow_le_pow_right (by decide) (by omega)
      have hcl := choices_len i
      have comp := eo_lcSq (K := K) (G := isL) (σ := [some (.int (n : Int)), some (.ref d), some (.int (0 + (i : Int))), none]) (H := H2) (a := d) (xs := us) (tl := tVar 1) (te := tOp rCat (tVar 3) (tLst (tCons (tVar 2) tNil))) (j := 3) (vs := [3])
        ((choices i).map (· ++ [(i : Int)])) (by rw [List.length_map]; exact hul) (ev_var rfl) (.inl (sq_of hd1)) (by rw [List.length_map]; omega) (fun _ => rfl)
        (fun j x y H3 e3 hx hy => by
          obtain ⟨c, hc, a, o, rfl, ho, rfl⟩ := pget hP hx
          have ey : y = c ++ [(i : Int)] := by
            rw [List.getElem?_map, hc] at hy
            exact (Option.some.inj hy).symm
          have hcl2 := (choices_low i c (List.mem_of_getElem? hc)).2
          have hcn : c.length ≤ 100 := by
            have := List.Nodup.length_le_of_subset (l₂ := (List.range i).map Int.ofNat) ((choices_low i c (List.mem_of_getElem? hc)).1.imp fun z => by omega) fun x hx => by
              obtain ⟨a, b⟩ := hcl2 x hx
              exact List.mem_map.mpr ⟨x.toNat, List.mem_range.mpr (by omega), by show ((x.toNat : Nat) : Int) = x; omega⟩
            rw [List.length_map, List.length_range] at this
            omega
          intro H4 e4 Q4 q4
          refine ⟨.ref a, rfl, l_op ⟨_, rfl, sz_of (by simp), fun t ht => ⟨a, t, _, _, rfl, rfl, Ex.new ht a _ (e4 a _ (e3 a _ ho)), upd_same, sz_of (by simp; omega), fun r hr => ?_⟩⟩⟩
          have e5 : Ex H4 (upd H4 t (.lst [V.int (0 + (i : Int))])) := Ex.new ht
          refine q4 r _ _ (fresh_back e5 hr) (e5.trans (Ex.new hr)) upd_same ?_
          rw [ey]
          show HO.lst (c.map V.int ++ [V.int (0 + (i : Int))]) = HO.lst ((c ++ [(i : Int)]).map V.int)
          rw [Int.zero_add, List.map_append]
          rfl)
      refine s_as ⟨.ref d, rfl, comp H2 (Ex.refl H2) _ fun p vs H3 hp e3 h3 hP3 => ⟨d, p, us, vs, rfl, rfl, e3 d _ hd1, h3, sz_of (by
        have := Paired.length hP3
        rw [List.length_map] at this
        omega), fun r hr => ⟨r, us ++ vs, _, rfl, (e1.trans e3).trans (Ex.new hr), fresh_back (e1.trans e3) hr, upd_same, paired_append (ob_up (e3.trans (Ex.new hr)) hP) (ob_up (Ex.new hr) hP3)⟩⟩⟩
    · rintro σ' H1 ⟨d, us, y2, rfl, e1, hd0, hd1, hP⟩
      have en : ((n : Int).toNat) = n := by omega
      exact ⟨.ref d, rfl, q d us H1 hd0 e1 hd1 (by rw [en] at hP; exact hP)⟩
end
end KS
namespace KS
open PySem PySem.Spec PyProof.Rows L2 KR KM Evl StX
section
variable {P : Program} {w : World} {K : PySem.W.Frag} {mg : Str → Option Value} {base : Heap}
def swap2 {α : Type} : List α → List α
  | [a, b] => [b, a]
  | l => l
theorem swap2_vals {zs : List V} {ws : List Value} (h : Vals zs ws) : Vals (swap2 zs) (swap2 ws) := by
  cases h with
  | nil => exact .nil
  | cons a t =>
    cases t with
    | nil => exact .cons a .nil
    | cons b t =>
      cases t with
      | nil => exact .cons b (.cons a .nil)
      | cons c t => exact .cons a (.cons b (.cons c t))
structure AsA (K : PySem.W.Frag) (mg : Str → Option Value) extends PrA K mg where
  sn : FnA K mg "sum_numbers" sSN ["lots", "lot"]
  bar : FnA K mg "barring" sBar ["lots", "lot"]
  ls : FnA K mg "_law_sum" sLS ["_law_lots"]
  cho : FnA K mg "_law_choices" sCho ["_law_many"]
  snk : KBn K sn.fd ["lots", "lot"] 0 ["lots", "lot"] (fun _ ws => ws) (fun _ zs => zs)
  bark : KBn K bar.fd ["lots", "lot"] 0 ["lot", "lots"] (fun _ ws => swap2 ws) (fun _ zs => swap2 zs)
abbrev sAsk : Stmt := topS 16
abbrev nAsk : List Str := ["_law_lots", "_law_lot_here", "_law_can", "_law_numbers", "_law_bar", "_law_met", "_law_some", "_law_number", "_law_one", "_law_mark", "_law_many"]
theorem scAsk : FnScope nAsk ["_law_lots", "_law_lot_here"] (defScope sAsk) := ⟨rfl, rfl, rfl, by decide +kernel, rfl, by decide +kernel, by decide +kernel⟩
structure Small (ls : List (List Int)) (lot : List Int) : Prop where
  len : ls.length ≤ 6
  each : ∀ l ∈ ls, l.length ≤ 6 ∧ l.Pairwise (· < ·)
  lot : lot.length ≤ 6 ∧ lot.Pairwise (· < ·)
def spAsk (K : PySem.W.Frag) : Sp := fun vs H Q _ => ∃ (a b : Addr) (xs : List V) (ls : List (List Int)) (lot : List Int), vs = [.ref a, .ref b] ∧ H a = some (.lst xs) ∧ LotsP K H xs ls ∧ SqT K H b (lot.map V.int) ∧ Small ls lot ∧ ∀ H2, Ex H H2 → Q (.bl true) H2
abbrev tCan (K : PySem.W.Frag) : TT := tTest (tOp (rEqD K) (tCall (spLS K) [] E0 (tCons (tLc (iSeq K (tVar 6)) (gName 7) tYes (tOp (rIxL K) (tVar 0) (tVar 7)) [7]) tNil)) (tVar 1))
abbrev tOut (K : PySem.W.Frag) : TT := tNot (tTest (tChain (rI0 fun i j => .bl (decide (i ≤ j))) (rI0 fun i j => .bl (decide (i < j))) (tC (.int 0)) (tVar 7) (tCB (rLenS K) (tCons (tVar 0) tNil))))
abbrev tMany : TT := tTest (tOp rEq (tOp (rI (fun _ j => 0 < j) fun i j => .int (i % j)) (tCB rInt1 (tCons (tVar 10) tNil)) (tC (.int 2))) (tC (.int 1)))
end
/-! ### which of several, side by side -/
theorem given_cons {n : Nat} {f : Nat → Bool} {v : Nat → V} : given (n + 1) f v = (if f 0 = true then [v 0] else []) ++ given n (fun i => f (i + 1)) (fun i => v (i + 1)) := by
  unfold given
  rw [List.range_succ_eq_map, List.filter_cons, List.filter_map]
  cases f 0 with
  | true =>
    rw [if_pos rfl, if_pos rfl, List.map_cons, List.map_map]
    rfl
  | false =>
    rw [if_neg Bool.false_ne_true, if_neg Bool.false_ne_true, List.map_map]
    rfl
theorem paired_given {β : Type} {R : V → β → Prop} (d : β) (p : β → Bool) : ∀ {us : List V} {cs : List β}, Paired R us cs → Paired R (given us.length (fun i => p (cs.getD i d)) (fun i => us.getD i .non)) (cs.filter p)
  | _, _, .nil => .nil
  | x :: us, c :: cs, .cons r t => by
    have ih := paired_given d p t
    show Paired R (given (us.length + 1) _ _) _
    rw [given_cons, List.filter_cons]
    by_cases h : p c = true
    · rw [if_pos (show p ((c :: cs).getD 0 d) = true from h), if_pos h]
      exact .cons r ih
    · rw [if_neg (show ¬ p ((c :: cs).getD 0 d) = true from h), if_neg h]
      exact ih
/-! ### options as data -/
def OD : Option (List Int) → PyData
  | none => .none
  | some l => .tuple (intsD l)
def OV (H : Hp) (v : V) : Option (List Int) → Prop
  | none => v = .non
  | some l => ∃ p, v = .ref p ∧ H p = some (.tup (l.map V.int))
theorem OV.up {H H' : Hp} {v : V} {o : Option (List Int)} (e : Ex H H') (h : OV H v o) : OV H' v o := by
  cases o with
  | none => exact h
  | some l =>
    obtain ⟨p, a, b⟩ := h
    exact ⟨p, a, e p _ b⟩
theorem OV.dp {K : PySem.W.Frag} {H : Hp} {v : V} {o : Option (List Int)} (h : OV H v o) : Dp K H v (OD o) := by
  cases o with
  | none =>
    cases (show v = .non from h)
    exact .non
  | some l =>
    obtain ⟨p, rfl, b⟩ := h
    exact .tup (st_of b) (dp_ints l)
theorem od_sh (o : Option (List Int)) : SeqAt.shaped (OD o) = true := by
  cases o with
  | none => exact sh_none
  | some l => exact sh_tup l
theorem od_eqv (o : Option (List Int)) : PyData.eqv (OD o) (OD o) = true := by
  cases o with
  | none =>
    show PyData.eqv .none .none = true
    rw [PyData.eqv]
  | some l =>
    show PyData.eqv (.tuple (intsD l)) (.tuple (intsD l)) = true
    rw [eqv_tup]
    exact decide_eq_true rfl
theorem ret_o {o : Option (List Int)} {H : Hp} {Q : VK} (h : ∀ v H2, Ex H H2 → OV H2 v o → Q v H2) : RetO o H Q := by
  cases o with
  | none => exact fun H2 e => h .non H2 e rfl
  | some l => exact fun p H2 _ e hp => h _ H2 e ⟨p, rfl, hp⟩
/-! ### lists of lists as data -/
theorem lay_lists : ∀ cs : List (List Int), PyData.canLayAll0 (cs.map fun c => PyData.list (intsD c)) = true
  | [] => by simp [PyData.canLayAll0]
  | c :: cs => by
    rw [List.map_cons, PyData.canLayAll0, lay_lists cs, PyData.canLay0, lay_ints]
    rfl
theorem dep_lists : ∀ cs : List (List Int), PyData.depthAll (cs.map fun c => PyData.list (intsD c)) ≤ 1
  | [] => by simp [PyData.depthAll]
  | c :: cs => by
    have ih := dep_lists cs
    rw [List.map_cons, PyData.depthAll, PyData.depth, dep_ints]
    omega
theorem sh_lists (cs : List (List Int)) : SeqAt.shaped (.list (cs.map fun c => PyData.list (intsD c))) = true := by
  unfold SeqAt.shaped
  rw [PyData.canLay0, lay_lists, PyData.depth]
  have := dep_lists cs
  exact decide_eq_true (by omega)
theorem dp_lists {K : PySem.W.Frag} {H : Hp} : ∀ {us : List V} {cs : List (List Int)}, Paired (Ob isL H) us cs → DpAll K H us (cs.map fun c => PyData.list (intsD c))
  | _, _, .nil => .nil
  | _, _, .cons r t => by
    obtain ⟨a, o, rfl, h, rfl⟩ := r
    exact .cons (.lst (sq_of h) (dp_ints _)) (dp_lists t)
theorem eqv_lists (cs : List (List Int)) : PyData.eqv (.list (cs.map fun c => PyData.list (intsD c))) (.list (intsD [])) = decide (cs = []) := by
  rw [PyData.eqv]
  cases cs with
  | nil => simp [intsD, PyData.eqvAll]
  | cons c cs => simp [intsD, PyData.eqvAll]
/-! ### choices of lots and their sums -/
def pick (ls : List (List Int)) (c : List Int) : List (List Int) := c.map fun n => ls.getD n.toNat []
theorem pick_paired {K : PySem.W.Frag} {H : Hp} {xs : List V} {ls : List (List Int)} (hP : LotsP K H xs ls) : ∀ {c : List Int}, (∀ n ∈ c, 0 ≤ n ∧ n < (ls.length : Int)) → LotsP K H (c.map fun n => xs.getD n.toNat .non) (pick ls c)
  | [], _ => .nil
  | n :: c, h => by
    have hn := h n List.mem_cons_self
    have hl := Paired.length hP
    have hx : xs[n.toNat]? = some (xs[n.toNat]'(by omega)) := List.getElem?_eq_getElem (by omega)
    obtain ⟨l, h1, h2⟩ := pget hP hx
    refine .cons ?_ (pick_paired hP fun m hm => h m (List.mem_cons_of_mem _ hm))
    show LotR K H (xs.getD n.toNat .non) (ls.getD n.toNat [])
    rw [getD_at hx, getD_at h1]
    exact h2
theorem pick_mem {ls : List (List Int)} {c : List Int} (h : ∀ n ∈ c, 0 ≤ n ∧ n < (ls.length : Int)) : ∀ l ∈ pick ls c, l ∈ ls := fun l hl => by
  obtain ⟨n, hn, rfl⟩ := List.mem_map.mp hl
  have := h n hn
  rw [List.getD_eq_getElem?_getD, List.getElem?_eq_getElem (show n.toNat < ls.length by omega)]
  exact List.getElem_mem _
theorem flat_len {m : Nat} : ∀ {ls : List (List Int)}, (∀ l ∈ ls, l.length ≤ m) → ls.flatten.length ≤ m * ls.length
  | [], _ => Nat.zero_le _
  | l :: ls, h => by
    rw [List.flatten_cons, List.length_append, List.length_cons, Nat.mul_succ]
    have := flat_len fun k hk => h k (List.mem_cons_of_mem _ hk)
    have := h l List.mem_cons_self
    omega
theorem Small.fits {ls : List (List Int)} {lot : List Int} (h : Small ls lot) : Fits ls lot := by
  have h1 := flat_len fun l hl => (h.each l hl).1
  have h2 := h.len
  have h3 := h.lot.1
  refine ⟨by omega, by omega, ?_⟩
  have h4 : (marks ls lot).length ≤ (ls.flatten ++ lot).length := List.Nodup.length_le_of_subset (marks_nd ls lot) fun x hx => mem_asc.mp hx
  rw [List.length_append] at h4
  omega
theorem lt_nd {l : List Int} (h : l.Pairwise (· < ·)) : l.Nodup := h.imp fun z => by omega
theorem sum_XL {ls : List (List Int)} (h : ∀ l ∈ ls, l.Nodup) (x : Int) : decide (x ∈ sum2 ls) = XL ls (fun l => decide (x ∈ l)) := by
  rw [XL_filter]
  refine decide_eq_decide.mpr ?_
  rw [mem_sum2, count_lots h]
theorem pick_XL {ls : List (List Int)} {ns : List Nat} (h : ∀ n ∈ ns, n < ls.length) (x : Int) : XL (pick ls (ofN ns)) (fun l => decide (x ∈ l)) = XL ns (fun k => match ls[k]? with | some l => decide (x ∈ l) | none => false) := by
  unfold pick
  rw [XL_map, XL_map]
  refine XL_congr fun n hn => ?_
  have hn := h n hn
  rw [List.getElem?_eq_getElem hn]
  show decide (x ∈ ls.getD n []) = _
  rw [List.getD_eq_getElem?_getD, List.getElem?_eq_getElem hn]
  rfl
theorem sum_ok {ls : List (List Int)} {lot : List Int} {ns : List Nat} (sm : Small ls lot) (h : sumF ls lot = some ns) : sum2 (pick ls (ofN ns)) = lot ∧ (ofN ns).Pairwise (· < ·) ∧ (∀ n ∈ ofN ns, 0 ≤ n ∧ n < (ls.length : Int)) := by
  obtain ⟨h1, h2, h3⟩ := sum_right h
  have h4 : ∀ n ∈ ofN ns, 0 ≤ n ∧ n < (ls.length : Int) := fun n hn => by
    obtain ⟨m, hm, rfl⟩ := List.mem_map.mp hn
    have := h2 m hm
    exact ⟨Int.natCast_nonneg m, Int.ofNat_lt.mpr this⟩
  refine ⟨asc_ext (sum2_pw _) sm.lot.2 fun x => ?_, List.pairwise_map.mpr (h1.imp fun z => Int.ofNat_lt.mpr z), h4⟩
  have e := sum_XL (ls := pick ls (ofN ns)) (fun l hl => lt_nd (sm.each l (pick_mem h4 l hl)).2) x
  exact decide_eq_decide.mp (e.trans ((pick_XL h2 x).trans (h3 x).symm))
theorem can_is {ls : List (List Int)} {lot : List Int} (sm : Small ls lot) : ((choices ls.length).any fun c => decide (sum2 (pick ls c) = lot)) = (sumF ls lot).isSome := by
  rcases one_of_both ls lot with ⟨ns, h1, _⟩ | ⟨b, h1, h2⟩
  · rw [h1]
    obtain ⟨a, b, c⟩ := sum_ok sm h1
    exact List.any_eq_true.mpr ⟨ofN ns, choices_all _ _ b c, decide_eq_true a⟩
  · rw [h1]
    refine Bool.eq_false_iff.mpr fun h => ?_
    obtain ⟨c, hc, he⟩ := List.any_eq_true.mp h
    have he := of_decide_eq_true he
    obtain ⟨c1, c2⟩ := choices_low _ _ hc
    obtain ⟨ns, rfl⟩ : ∃ ns : List Nat, c = ofN ns := ⟨c.map Int.toNat, by
      show c = List.map Int.ofNat (c.map Int.toNat)
      rw [List.map_map]
      refine ((List.map_congr_left (g := id) fun z hz => ?_).trans (List.map_id _)).symm
      have := (c2 z hz).1
      show ((z.toNat : Nat) : Int) = z
      omega⟩
    have hlt : ∀ n ∈ ns, n < ls.length := fun n hn => Int.ofNat_lt.mp (c2 _ (List.mem_map_of_mem hn)).2
    obtain ⟨_, b1, b2⟩ := bar_right h2
    refine barred b1 b2 ns fun x => ?_
    have e := (sum_XL (ls := pick ls (ofN ns)) (fun l hl => lt_nd (sm.each l (pick_mem c2 l hl)).2) x).trans (pick_XL hlt x)
    rw [he] at e
    exact e
theorem bar_cnt {ls : List (List Int)} {lot b : List Int} (h : barF ls lot = some b) : (∀ l ∈ ls, (b.filter fun x => decide (x ∈ l)).length % 2 = 0) ∧ (b.filter fun x => decide (x ∈ lot)).length % 2 = 1 := by
  obtain ⟨_, b1, b2⟩ := bar_right h
  refine ⟨fun l hl => ?_, ?_⟩
  · have := b1 l hl
    rw [XL_filter] at this
    have := of_decide_eq_false this
    omega
  · rw [XL_filter] at b2
    exact of_decide_eq_true b2
theorem bar_len {ls : List (List Int)} {lot b : List Int} (h : barF ls lot = some b) : b.length ≤ (marks ls lot).length := by
  by_cases hz : (leftL ls lot).1 = 0
  · unfold barF at h
    rw [if_pos hz] at h
    cases h
  · unfold barF at h
    rw [if_neg hz] at h
    cases h
    unfold barL
    rw [List.length_map]
    have h1 : (KM.bits (foundL ls lot)).length ≤ bl (foundL ls lot) := by
      unfold KM.bits
      have := List.length_filter_le (fun i => (foundL ls lot).testBit i) (List.range (bl (foundL ls lot)))
      rw [List.length_range] at this
      exact this
    have h2 := bl_le_of_lt (found_lt ls lot hz)
    omega
/-! ### readings of its parts -/
section
variable {K : PySem.W.Frag} {σ : L2.St} {H : Hp}
theorem el_pick {a s : Addr} {xs : List V} {c : List Int} {j : Nat} (h0 : (wipe σ [7])[0]? = some (some (.ref a))) (hj : σ[j]? = some (some (.ref s))) (hn : 7 < σ.length) (hw : ∀ x, wipe ((wipe σ [7]).set 7 (some x)) [7] = wipe σ [7]) (ha : H a = some (.lst xs)) (hs : Sq K H s (c.map V.int))
    (hc : ∀ n ∈ c, 0 ≤ n ∧ n < (xs.length : Int)) (hl : c.length ≤ 1000) : EvL (tLc (iSeq K (tVar j)) (gName 7) tYes (tOp (rIxL K) (tVar 0) (tVar 7)) [7]) σ H (c.map fun n => xs.getD n.toNat .non) := by
  have comp := el_lcSq (K := K) (σ := σ) (H := H) (tl := tVar j) (te := tOp (rIxL K) (tVar 0) (tVar 7)) (t := tYes) (j := 7) (vs := [7]) (fun _ => true) (fun i => xs.getD (c.getD i 0).toNat .non) (ev_var hj) hs (by rw [List.length_map]; omega) hw (fun _ _ _ _ _ => et_yes)
    (fun i x H1 e1 hx _ => by
      obtain ⟨n, hn2, rfl⟩ := int_at hx
      have hb := hc n (List.mem_of_getElem? hn2)
      have hx2 : xs[n.toNat]? = some (xs[n.toNat]'(by omega)) := List.getElem?_eq_getElem (by omega)
      rw [getD_at hn2, getD_at hx2]
      exact ev_op (ev_var (by rw [List.getElem?_set_ne (by decide)]; exact h0)) (ev_var (by rw [List.getElem?_set_self (by rw [wipe_length]; exact hn)])) (rv_ixL (sq_of (e1 a _ ha)) (at_of (j := n.toNat) (by omega) hx2)))
  have e := given_of (0 : Int) c (n := (c.map V.int).length) (by rw [List.length_map]) (fun _ => true) (fun n => xs.getD n.toNat .non)
  rw [List.filter_eq_self.mpr (fun _ _ => rfl)] at e
  rw [← e]
  exact comp
theorem eu_sum {a s : Addr} {xs : List V} {ls : List (List Int)} {lot c : List Int} {j : Nat} {E : XK} (h0 : (wipe σ [7])[0]? = some (some (.ref a))) (hj : σ[j]? = some (some (.ref s))) (hn : 7 < σ.length) (hw : ∀ x, wipe ((wipe σ [7]).set 7 (some x)) [7] = wipe σ [7]) (ha : H a = some (.lst xs)) (hP : LotsP K H xs ls) (sm : Small ls lot) (hs : Sq K H s (c.map V.int))
    (hc : ∀ n ∈ c, 0 ≤ n ∧ n < (ls.length : Int)) (hl : c.length ≤ 100) : EvU (tCall (spLS K) [] E (tCons (tLc (iSeq K (tVar j)) (gName 7) tYes (tOp (rIxL K) (tVar 0) (tVar 7)) [7]) tNil)) σ H ((sum2 (pick ls c)).map V.int) := fun H1 e Q q =>
  c_op (a_op (el_pick h0 hj hn hw ha hs (by rw [Paired.length hP]; exact hc) (by omega) H1 e _ fun p H2 hp e2 h2 => by
    have h3 := flat_len (m := 6) (ls := pick ls c) fun l hl => (sm.each l (pick_mem hc l hl)).1
    have h4 : (pick ls c).length = c.length := List.length_map _
    exact ⟨.ref p, pick ls c, rfl, ⟨p, _, rfl, .inl (sq_of h2), lots_up (e.trans e2) (pick_paired hP hc)⟩, by omega, by omega, fun l hl => lt_nd (sm.each l (pick_mem hc l hl)).2, fun t H3 ht e3 h3 => q t H3 (fresh_back e2 ht) (e2.trans e3) h3⟩))
theorem ev_sum {a b s : Addr} {xs : List V} {ls : List (List Int)} {lot c : List Int} {j : Nat} {E : XK} (h0 : (wipe σ [7])[0]? = some (some (.ref a))) (h1 : σ[1]? = some (some (.ref b))) (hj : σ[j]? = some (some (.ref s))) (hn : 7 < σ.length) (hw : ∀ x, wipe ((wipe σ [7]).set 7 (some x)) [7] = wipe σ [7]) (ha : H a = some (.lst xs)) (hP : LotsP K H xs ls) (sm : Small ls lot) (hs : Sq K H s (c.map V.int))
    (hb : SqT K H b (lot.map V.int)) (hc : ∀ n ∈ c, 0 ≤ n ∧ n < (ls.length : Int)) (hl : c.length ≤ 100) :
    Ev (tOp (rEqD K) (tCall (spLS K) [] E (tCons (tLc (iSeq K (tVar j)) (gName 7) tYes (tOp (rIxL K) (tVar 0) (tVar 7)) [7]) tNil)) (tVar 1)) σ H (.bl (decide (sum2 (pick ls c) = lot))) := fun H1 e Q q =>
  eu_sum h0 hj hn hw ha hP sm hs hc hl H1 e _ fun t H2 ht e2 h2 => ⟨.ref b, h1, .tuple (intsD _), .tuple (intsD lot), .tup (st_of h2) (dp_ints _), .tup (ex_t (e.trans e2) hb) (dp_ints _), sh_tup _, sh_tup _, by rw [eqv_tup]; exact q H2 e2⟩
/-- isinstance(x, tuple) of a tuple -/
theorem et_isT {j : Nat} {p : Addr} {xs : List V} (hj : σ[j]? = some (some (.ref p))) (hp : H p = some (.tup xs)) : EvT (tNot fun σ H Q => tCB (rIsi K) (tCons (tVar j) (tCons (tC (.ty "tuple")) tNil)) σ H fun x H' => ∃ k, TruV K x H' k ∧ Q k H') σ H false := fun H1 e Q q =>
  ⟨.ref p, hj, .ref p, .ty "tuple", .type "tuple", .type "tuple", true, rfl, .ty "tuple", .base (.tup (e p _ hp)), kit_ty (by decide +kernel), true, rfl, q H1 (Ex.refl H1)⟩
/-- list(x) != sorted(set(x)) of an ascending tuple -/
theorem et_asc {w : World} {j : Nat} {p : Addr} {ns : List Int} (hj : σ[j]? = some (some (.ref p))) (hp : H p = some (.tup (ns.map V.int))) (hs : ns.Pairwise (· < ·)) (hl : ns.length < 64) :
    EvT (tTest (tOp (rNeD K) (tCB (rListS K) (tCons (tVar j) tNil)) (tCB (rSortedSet w) (tCons (tCB (rSetT K w) (tCons (tVar j) tNil)) tNil)))) σ H false := fun H1 e Q q => by
  refine ⟨.ref p, hj, p, _, rfl, .inr (st_of (e p _ hp)), fun l hl1 => ?_⟩
  have e1 : Ex H1 (upd H1 l (.lst (ns.map V.int))) := Ex.new hl1
  refine ⟨.ref p, hj, p, ns, rfl, st_of ((e.trans e1) p _ hp), Nat.lt_of_le_of_lt (show ns.length + 1 ≤ 65 by omega) (by decide), fun t c ht hc => ?_⟩
  refine ⟨t, _, c, rfl, upd_same, by omega, fun ns' u h1 h2 h3 hu => ?_⟩
  have e2 := e1.trans (Ex.new (o := SetO w t (fun j => decide (j ∈ ns)) c) ht)
  have e3 := e2.trans (Ex.new (o := HO.lst (ns'.map V.int)) hu)
  have en : ns' = ns := asc_ext h1 hs fun x => by rw [h2 x, decide_eq_true_iff]
  subst en
  refine ⟨.list (intsD ns'), .list (intsD ns'), .lst (sq_of (((Ex.new ht).trans (Ex.new hu)) l _ upd_same)) (dp_ints _), .lst (sq_of upd_same) (dp_ints _), sh_list _, sh_list _, _, rfl, ?_⟩
  rw [eqv_list, decide_eq_true rfl]
  exact q _ e3
end
end KS
namespace KS
open PySem PySem.Spec PyProof.Rows L2 KR KM Evl StX
section
variable {P : Program} {w : World} {K : PySem.W.Frag} {mg : Str → Option Value} {base : Heap}
theorem op_op {r : R2} {ta tb : TE} {σ : L2.St} {H : Hp} {Q : VK} (h : ta σ H fun x H1 => tb σ H1 fun y H2 => r x y H2 Q) : tOp r ta tb σ H Q := h
theorem lc_op {K : PySem.W.Frag} {tl te : TE} {g : TG} {tt : TT} {vs : List Nat} {σ : L2.St} {H : Hp} {Q : VK} (h : tl σ H fun x H1 => tLc (iList K (tC x)) g tt te vs σ H1 Q) : tLc (iList K tl) g tt te vs σ H Q := h
theorem not_nil_any {α : Type} (p : α → Bool) [DecidableEq α] : ∀ l : List α, (!decide (l.filter p = [])) = l.any p
  | [] => rfl
  | x :: l => by
    rw [List.filter_cons, List.any_cons]
    cases h : p x with
    | true => simp
    | false =>
      rw [if_neg Bool.false_ne_true, not_nil_any p l]
      rfl
theorem et_nn {σ : L2.St} {H : Hp} {j : Nat} (hj : σ[j]? = some (some .non)) : EvT (tB (tNotN (tVar j))) σ H false := fun H1 e Q q => ⟨.non, hj, _, rfl, by rw [decide_eq_true rfl]; exact q H1 (Ex.refl H1)⟩
theorem nx_op {f b c : L2.St → Hp → Prop} {r : VK} {σ : L2.St} {H : Hp} (h : f σ H) : tNext { nx := f, rt := r, bk := b, ct := c } σ H := h
theorem an_op {ta tb : TE} {σ : L2.St} {H : Hp} {Q : VK} (h : ta σ H fun x H1 => ∃ c, x = .bl c ∧ if c = true then tb σ H1 Q else Q (.bl false) H1) : tAndV ta tb σ H Q := h
theorem cut_last {ys : List V} {z : V} : cutV (ys ++ [z]) none (some (-1)) = ys := by
  unfold cutV
  show ((ys ++ [z]).drop 0).take ((-1 + ((ys ++ [z]).length : Int)).toNat - 0) = ys
  have e : (-1 + ((ys ++ [z]).length : Int)).toNat - 0 = ys.length := by
    rw [List.length_append, List.length_singleton]
    omega
  rw [e, List.drop_zero, List.take_left' rfl]
theorem at_last {ys : List V} {z : V} : atI (ys ++ [z]) (-1) = some z := by
  unfold atI ixN
  rw [if_neg (by decide), List.length_append, List.length_singleton, if_pos (by omega)]
  show (ys ++ [z])[((-1 : Int) + ((ys.length + 1 : Nat) : Int)).toNat]? = some z
  have e : ((-1 : Int) + ((ys.length + 1 : Nat) : Int)).toNat = ys.length := by omega
  rw [e, List.getElem?_append_right (Nat.le_refl _), Nat.sub_self]
  rfl
theorem ok_ask {f : Addr} {fd : FuncData} {k : Nat} (F : Fun K "_law_asked_right" "_law_asked_right" sAsk f fd) (B : Bu mg) (A_ : AsA K mg) : FnOk P w K mg base CX0 (k + 4) f fd ["_law_lots", "_law_lot_here"] (spAsk K) := by
  have GS : FnOk P w K mg base CX0 (k + 3) A_.sn.f A_.sn.fd ["lots", "lot"] (spSN K) := ok_sn A_.sn.F B A_.toPrA
  have GB : FnOk P w K mg base CX0 (k + 3) A_.bar.f A_.bar.fd ["lots", "lot"] (spBar K) := ok_bar A_.bar.F B A_.toPrA
  have GL : FnOk P w K mg base CX0 (k + 1) A_.ls.f A_.ls.fd ["_law_lots"] (spLS K) := ok_ls A_.ls.F B
  have GC : FnOk P w K mg base CX0 (k + 1) A_.cho.f A_.cho.fd ["_law_many"] spCho := ok_cho A_.cho.F B
  refine F.ok scAsk (fun vs H Q E h => ?_) (fun cdv A outer s H vs Q E hr h => ?_)
  · obtain ⟨a, b, xs, ls, lot, rfl, _⟩ := h
    rfl
  · obtain ⟨a, b, xs, ls, lot, rfl, ha, hP, hb, sm, q⟩ := h
    have hu := hu_of hr
    have hu64 := hr.units
    have hr1 : Room (k + 1) _ := hr.mono (by omega)
    refine ⟨_, pss_cons (ps_set (i := 2) scAsk.nd rfl (Or.inl rfl) (pe_cmpR (op_neD hu64)
        (pe_lc (own := [("_law_some", 6)]) (g := gName 6) (tt := tCan K) rfl scAsk.nd
          (pi_list (pe_call GC hr1 (by rfl) A_.cho.g A_.cho.F.kp A_.cho.b .nil pass0 (pa_cons (pe_callB call_len_seq rfl B.len PySem.boot_len (pa_cons (pv 0) pa_nil)) pa_nil))) (blkOk_by (N := nAsk) (sc := defScope sAsk) (by decide +kernel))
          (fun _ _ _ _ _ => pg_name (i := 6) scAsk.nd rfl (Or.inl rfl))
          (fun _ _ _ _ _ => pts_one (pt_cmpR (op_eqD hu64) (pe_call GL hr1 (by rfl) A_.ls.g A_.ls.F.kp A_.ls.b .nil pass0 (pa_cons
            (pe_lc (own := [("_law_number", 7)]) (g := gName 7) rfl scAsk.nd (pi_seq (pv 6)) (blkOk_by (N := nAsk) (sc := relS _ (defScope sAsk)) (by decide +kernel)) (fun _ _ _ _ _ => pg_name (i := 7) scAsk.nd rfl (Or.inl rfl)) (fun _ _ _ _ _ => pts_nil)
              (fun _ _ _ _ _ => pe_ix ix_list (pv 0) (pv 7) (fun _ _ => rfl))) pa_nil)) (pv 1) (nomark _)))
          (fun _ _ _ _ _ => pv 6)) (pe_lst pa_nil) (nomark _)))
      (pss_cons (ps_asg (pe_tup (pa_cons (pe_call GS hr (by rfl) A_.sn.g A_.sn.F.kp A_.sn.b .nil pass0 (pa_cons (pv 0) (pa_cons (pv 1) pa_nil)))
          (pa_cons (pe_call GB hr (by rfl) A_.bar.g A_.bar.F.kp A_.bar.b .nil pass0 (pa_cons (pv 0) (pa_cons (pv 1) pa_nil))) pa_nil)))
          (pg_tup rfl (pgs_cons (pg_name (i := 3) scAsk.nd rfl (.inl rfl)) (pgs_cons (pg_name (i := 4) scAsk.nd rfl (.inr rfl)) pgs_nil))))
      (pss_cons (ps_if (PW.pt (pw_or (pt_cmpR (op_neD hu64) (pe_callN0 GS hr rfl A_.sn.g A_.sn.F.kp A_.snk pass0 (pk_cons (pe_tupleOf rfl B.tuple (pv 0)) (pk_cons (pe_callTy call_list_of rfl B.list boot_list (pa_cons (pv 1) pa_nil)) pk_nil))) (pv 3) (nomark _))
          (pw_or1 (pt_cmpR (op_neD hu64) (pe_callN0 GB hr rfl A_.bar.g A_.bar.F.kp A_.bark pass0 (pk_cons (pe_callTy call_list_of rfl B.list boot_list (pa_cons (pv 1) pa_nil)) (pk_cons
            (pe_lc (own := [("_law_one", 8)]) (g := gName 8) (te := tCB (rListS K) (tCons (tVar 8) tNil)) rfl scAsk.nd (pi_seq (pv 0)) (blkOk_by (N := nAsk) (sc := defScope sAsk) (by decide +kernel)) (fun _ _ _ _ _ => pg_name (i := 8) scAsk.nd rfl (Or.inl rfl)) (fun _ _ _ _ _ => pts_nil)
              (fun _ _ _ _ _ => pe_callTy call_list_of rfl B.list boot_list (pa_cons (pv 8) pa_nil))) pk_nil))) (pv 4) (nomark _))))) (pss_one (ps_ret pe_bl)) pss_nil)
      (pss_cons (ps_if (pt_truth (pv 2) (by intro _; rfl))
        (pss_cons (ps_if (PW.pt (pw_or (pt_cmp (pc_notN (pv 4))) (pw_or (pt_not (pt_truth (pe_callB call_isi rfl B.isinstance boot_isinstance (pa_cons (pv 3) (pa_cons (pe_bltn (v := V.ty "tuple") rfl B.tuple boot_tuple rfl) pa_nil))) (by intro _; rfl)))
            (pw_or1 (pt_cmpR (op_neD hu64) (pe_callTy call_list_of rfl B.list boot_list (pa_cons (pv 3) pa_nil)) (pe_callB (cr_sortedSet rfl) rfl B.sorted boot_sorted (pa_cons (pe_callTy (cr_setT rfl) rfl B.set boot_set (pa_cons (pv 3) pa_nil)) pa_nil)) (nomark _)))))) (pss_one (ps_ret pe_bl)) pss_nil)
        (pss_one (ps_ret (pe_and (pe_cmpR (op_eqD hu64) (pe_lc (own := [("_law_number", 7)]) (g := gName 7) (tt := tOut K) rfl scAsk.nd (pi_seq (pv 3)) (blkOk_by (N := nAsk) (sc := defScope sAsk) (by decide +kernel)) (fun _ _ _ _ _ => pg_name (i := 7) scAsk.nd rfl (Or.inl rfl))
            (fun _ _ _ _ _ => pts_one (pt_not (pt_chain op_le op_lt pe_int (pv 7) (pe_callB call_len_seq rfl B.len PySem.boot_len (pa_cons (pv 0) pa_nil))))) (fun _ _ _ _ _ => pv 7)) (pe_lst pa_nil) (nomark _))
          (pe_one (pe_cmpR (op_eqD hu64) (pe_call GL hr1 (by rfl) A_.ls.g A_.ls.F.kp A_.ls.b .nil pass0 (pa_cons
            (pe_lc (own := [("_law_number", 7)]) (g := gName 7) (te := tOp (rIxL K) (tVar 0) (tVar 7)) rfl scAsk.nd (pi_seq (pv 3)) (blkOk_by (N := nAsk) (sc := defScope sAsk) (by decide +kernel)) (fun _ _ _ _ _ => pg_name (i := 7) scAsk.nd rfl (Or.inl rfl)) (fun _ _ _ _ _ => pts_nil)
              (fun _ _ _ _ _ => pe_ix ix_list (pv 0) (pv 7) (fun _ _ => rfl))) pa_nil)) (pv 1) (nomark _))))))) pss_nil)
      (pss_cons (ps_if (PW.pt (pw_or (pt_cmp (pc_notN (pv 3))) (pw_or (pt_not (pt_truth (pe_callB call_isi rfl B.isinstance boot_isinstance (pa_cons (pv 4) (pa_cons (pe_bltn (v := V.ty "tuple") rfl B.tuple boot_tuple rfl) pa_nil))) (by intro _; rfl)))
            (pw_or1 (pt_cmpR (op_neD hu64) (pe_callTy call_list_of rfl B.list boot_list (pa_cons (pv 4) pa_nil)) (pe_callB (cr_sortedSet rfl) rfl B.sorted boot_sorted (pa_cons (pe_callTy (cr_setT rfl) rfl B.set boot_set (pa_cons (pv 4) pa_nil)) pa_nil)) (nomark _)))))) (pss_one (ps_ret pe_bl)) pss_nil)
      (pss_cons (ps_setLc (i := 5) (own := [("_law_one", 8)]) (g := gName 8) (te := tCB (rLenS K) (tCons (tLc (iSeq K (tVar 4)) (gName 9) (tTest (tOp (rIn K false) (tVar 9) (tVar 8))) (tVar 9) [9]) tNil)) rfl scAsk.nd rfl rfl rfl
          (pi_list (pe_op op_cat (pv 0) (pe_lst (pa_cons (pv 1) pa_nil)))) (blkOk_by (N := nAsk) (sc := defScope sAsk) (by decide +kernel)) (fun _ _ _ _ _ => pg_name (i := 8) scAsk.nd rfl (Or.inr rfl)) (fun _ _ _ _ _ => pts_nil)
          (fun _ _ _ _ _ => pe_callB call_len_seq rfl B.len PySem.boot_len (pa_cons (pe_lc (own := [("_law_mark", 9)]) (g := gName 9) rfl scAsk.nd (pi_seq (pv 4)) (blkOk_by (N := nAsk) (sc := relS _ (defScope sAsk)) (by decide +kernel)) (fun _ _ _ _ _ => pg_name (i := 9) scAsk.nd rfl (Or.inl rfl))
            (fun _ _ _ _ _ => pts_one (pt_cmpR op_in_seq (pv 9) (pv 8) (by rfl))) (fun _ _ _ _ _ => pv 9)) pa_nil)))
      (pss_one (ps_ret (pe_and (pe_cmpR (op_eqD hu64) (pe_lc (own := [("_law_many", 10)]) (g := gName 10) (tt := tMany) rfl scAsk.nd (pi_list (pe_slice sl_list (pv 5) po_none (po_some (pe_un un_neg pe_int)))) (blkOk_by (N := nAsk) (sc := defScope sAsk) (by decide +kernel)) (fun _ _ _ _ _ => pg_name (i := 10) scAsk.nd rfl (Or.inl rfl))
            (fun _ _ _ _ _ => pts_one (pt_cmpR op_eq (pe_op op_mod (pe_callTy call_int1 rfl B.int boot_int (pa_cons (pv 10) pa_nil)) pe_int) pe_int (nomark _))) (fun _ _ _ _ _ => pv 10)) (pe_lst pa_nil) (nomark _))
          (pe_one (pe_cmpR op_eq (pe_op op_mod (pe_callTy call_int1 rfl B.int boot_int (pa_cons (pe_ix ix_list (pv 5) (pe_un un_neg pe_int) (fun _ _ => rfl)) pa_nil)) pe_int) pe_int (nomark _))))))))))), ?_⟩
    have hxl : xs.length = ls.length := Paired.length hP
    have hl6 := sm.len
    refine q_as (op_op (lc_op (c_op (a_op ⟨.ref a, rfl, a, xs, rfl, .inl (sq_of ha), xs.length, rfl, by omega, fun p us H2 hp e2 h2 hP2 => ?_⟩))))
    have comp := el_lcS (K := K) (σ := [some (.ref a), some (.ref b), none, none, none, none, none, none, none, none, none]) (H := H2) (tl := tC (.ref p)) (te := tVar 6) (t := tCan K) (j := 6) (vs := [6]) (xs := us)
      (fun i => decide (sum2 (pick ls ((choices xs.length).getD i [])) = lot)) (fun i => us.getD i .non) (ev_s ev_c (sq_of h2)) (by
        rw [Paired.length hP2, choices_len]
        exact Nat.le_trans (Nat.pow_le_pow_right (by decide) (show xs.length ≤ 6 by omega)) (by decide)) (fun _ => rfl)
      (fun i x H3 e3 hx => by
        obtain ⟨c, hc, s, o, rfl, ho, rfl⟩ := pget hP2 hx
        rw [getD_at hc]
        obtain ⟨c1, c2⟩ := choices_low _ _ (List.mem_of_getElem? hc)
        have hcl : c.length ≤ 100 := by
          have := (Lot.mk c1 c2 : Lot c (xs.length : Int)).len
          omega
        exact et_test (ev_sum (a := a) (b := b) (s := s) (xs := xs) (lot := lot) rfl rfl rfl (show 7 < 11 by decide) (fun _ => rfl) ((e2.trans e3) a _ ha) (lots_up (e2.trans e3) hP) sm (.inl (sq_of (e3 s _ ho))) (ex_t (e2.trans e3) hb) (fun n hn => by have := c2 n hn; omega) hcl))
      (fun i x H3 e3 hx _ => by
        rw [getD_at hx]
        exact ev_var rfl)
    refine comp H2 (Ex.refl H2) _ fun r H3 hr3 e3 h3 => l_op ⟨Nat.zero_le _, fun z hz => ?_⟩
    have hcan : (!decide ((choices xs.length).filter (fun c => decide (sum2 (pick ls c) = lot)) = [])) = (sumF ls lot).isSome := by
      rw [hxl, ← can_is sm, not_nil_any]
    have e4 : Ex H3 (upd H3 z (.lst [])) := Ex.new hz
    have hpg := ob_up (e3.trans e4) (paired_given ([] : List Int) (fun c => decide (sum2 (pick ls c) = lot)) hP2)
    refine ⟨.list _, .list (intsD []), .lst (sq_of (e4 r _ h3)) (dp_lists hpg), .lst (sq_of upd_same) .nil, sh_lists _, sh_list [], ?_⟩
    rw [eqv_lists, hcan]
    have e04 : Ex H (upd H3 z (.lst [])) := (e2.trans e3).trans e4
    generalize upd H3 z (.lst []) = H4 at e04
    -- numbers, bar
    refine q_as ⟨.ref a, rfl, .ref b, rfl, .ref a, .ref b, ls, lot, rfl, ⟨a, xs, rfl, .inl (sq_of (e04 a _ ha)), lots_up e04 hP⟩, ⟨b, rfl, .inr (ex_t e04 hb)⟩, sm.fits, ret_o fun v3 H5 e5 o3 => ?_⟩
    have e05 := e04.trans e5
    refine ⟨.ref a, rfl, .ref b, rfl, .ref a, .ref b, ls, lot, rfl, ⟨a, xs, rfl, .inl (sq_of (e05 a _ ha)), lots_up e05 hP⟩, ⟨b, rfl, .inr (ex_t e05 hb)⟩, sm.fits, ret_o fun v4 H6 e6 o4 => ⟨sz_of (by simp), fun tp htp => ?_⟩⟩
    have e7 : Ex H6 (upd H6 tp (.tup [v3, v4])) := Ex.new htp
    refine ⟨tp, _, rfl, st_of upd_same, rfl, v3, _, rfl, v4, _, rfl, rfl, ?_⟩
    have e07 := (e05.trans e6).trans e7
    have o3' := o3.up (e6.trans e7)
    have o4' := o4.up e7
    generalize upd H6 tp (.tup [v3, v4]) = H7 at e07 o3' o4'
    clear o3 o4 e7
    -- asked again, by names
    refine q_if0 ⟨.ref a, rfl, .inl ⟨a, xs, rfl, sq_of (e07 a _ ha), fun t1 ht1 => ?_⟩⟩
    have f1 : Ex H7 (upd H7 t1 (.tup xs)) := Ex.new ht1
    refine ⟨.ref b, rfl, b, _, rfl, .inr (ex_t (e07.trans f1) hb), fun l1 hl1 => ?_⟩
    have f2 := f1.trans (Ex.new (o := HO.lst (lot.map V.int)) hl1)
    refine ⟨rfl, rfl, .ref t1, .ref l1, ls, lot, rfl, ⟨t1, xs, rfl, .inr (st_of (Ex.new hl1 t1 _ upd_same)), lots_up (e07.trans f2) hP⟩, ⟨l1, rfl, .inl (sq_of upd_same)⟩, sm.fits, ret_o fun v5 H8 e8 o5 => ?_⟩
    have f8 := f2.trans e8
    refine ⟨v3, rfl, OD _, OD _, o5.dp, (o3'.up f8).dp, od_sh _, od_sh _, _, rfl, ?_⟩
    rw [od_eqv]
    refine iteF ?_
    refine ⟨.ref b, rfl, b, _, rfl, .inr (ex_t (e07.trans f8) hb), fun l2 hl2 => ?_⟩
    have f9 := f8.trans (Ex.new (o := HO.lst (lot.map V.int)) hl2)
    have f9' : Ex H (upd H8 l2 (.lst (lot.map V.int))) := e07.trans f9
    have hl2' : (upd H8 l2 (.lst (lot.map V.int))) l2 = some (.lst (lot.map V.int)) := upd_same
    generalize upd H8 l2 (.lst (lot.map V.int)) = H9 at f9 f9' hl2'
    refine eo_lcSq (K := K) (G := isL) (σ := [some (.ref a), some (.ref b), some (.bl (sumF ls lot).isSome), some v3, some v4, none, none, none, none, none, none]) (H := H9) (a := a) (xs := xs) (tl := tVar 0) (te := tCB (rListS K) (tCons (tVar 8) tNil)) (j := 8) (vs := [8])
      ls hxl (ev_var rfl) (.inl (sq_of (f9' a _ ha))) (by omega) (fun _ => rfl) (fun i x y H10 e10 hx hy => by
        obtain ⟨l, hl, b', rfl, hb'⟩ := pget hP hx
        rw [hl] at hy
        cases hy
        exact fun H11 e11 Q11 q11 => ⟨.ref b', rfl, b', _, rfl, hb'.up ((f9'.trans e10).trans e11), fun l3 hl3 => q11 l3 _ _ hl3 (Ex.new hl3) upd_same rfl⟩) H9 (Ex.refl H9) _ fun p2 us2 H10 hp2 e10 h10 hP10 => ?_
    refine ⟨rfl, rfl, .ref p2, .ref l2, ls, lot, rfl, ⟨p2, us2, rfl, .inl (sq_of h10), L2.Paired.mapP hP10 fun v c ⟨a', o', x1, x2, x3⟩ => ⟨a', x1, .inl (sq_of (by rw [x2, x3]))⟩⟩, ⟨l2, rfl, .inl (sq_of (e10 l2 _ hl2'))⟩, sm.fits, ret_o fun v6 H11 e11 o6 => ?_⟩
    have g11 := (f9.trans e10).trans e11
    refine ⟨v4, rfl, OD _, OD _, o6.dp, (o4'.up g11).dp, od_sh _, od_sh _, _, rfl, ?_⟩
    rw [od_eqv]
    refine iteF ?_
    have e11' := e07.trans g11
    have o3 := o3'.up g11
    have o4 := o4'.up g11
    clear o3' o4' o5 o6
    refine nx_op (q_if0 ?_)
    refine ⟨_, rfl, _, rfl, ?_⟩
    rcases one_of_both ls lot with ⟨ns, s1, s2⟩ | ⟨bb, s1, s2⟩
    · rw [s1] at o3 ⊢
      rw [s2] at o4
      obtain ⟨p3, rfl, hp3⟩ : ∃ p, v3 = .ref p ∧ H11 p = some (.tup ((ofN ns).map V.int)) := o3
      cases (show v4 = .non from o4)
      obtain ⟨k1, k2, k3⟩ := sum_ok sm s1
      have hnl : (ofN ns).length ≤ 6 := by
        have := (Lot.mk k2 k3).len
        omega
      refine iteT ?_
      refine q_if0 ((et_or (a := false) (et_nn rfl) fun _ => et_or (a := false) (et_isT rfl hp3) fun _ => et_asc rfl hp3 k2 (by omega)) H11 (Ex.refl H11) _ fun H12 e12 => iteF ?_)
      have e12' := e11'.trans e12
      have hp3' := e12 p3 _ hp3
      have comp := el_lcSq (K := K) (σ := [some (.ref a), some (.ref b), some (.bl true), some (.ref p3), some .non, none, none, none, none, none, none]) (H := H12) (a := p3) (xs := (ofN ns).map V.int) (tl := tVar 3) (te := tVar 7) (t := tOut K) (j := 7) (vs := [7])
        (fun _ => false) (fun _ => .non) (ev_var rfl) (.inr (st_of hp3')) (by rw [List.length_map]; omega) (fun _ => rfl) (fun i x H13 e13 hx => by
          obtain ⟨n, hn, rfl⟩ := int_at hx
          obtain ⟨n0, n1⟩ := k3 n (List.mem_of_getElem? hn)
          intro H14 e14 Q14 q14
          refine ⟨.int n, rfl, 0, n, rfl, rfl, _, rfl, ?_⟩
          rw [decide_eq_true n0]
          refine iteT ?_
          refine ⟨.ref a, rfl, a, xs, rfl, .inl (sq_of (((e12'.trans e13).trans e14) a _ ha)), n, _, rfl, rfl, _, rfl, ?_⟩
          rw [decide_eq_true (by omega)]
          exact q14 H14 (Ex.refl H14)) (fun _ _ _ _ _ h => by cases h)
      refine nx_op (s_re (an_op (op_op (comp H12 (Ex.refl H12) _ fun r2 H13 hr2 e13 h13 => ?_))))
      refine l_op ⟨Nat.zero_le _, fun z2 hz2 => ?_⟩
      have e14 : Ex H13 (upd H13 z2 (.lst [])) := Ex.new hz2
      have hnone : given ((ofN ns).map V.int).length (fun _ => false) (fun _ => V.non) = [] := by
        unfold given
        rw [List.filter_eq_nil_iff.mpr (fun _ _ => by simp)]
        rfl
      rw [hnone] at h13
      refine ⟨.list (intsD []), .list (intsD []), .lst (sq_of (e14 r2 _ h13)) .nil, .lst (sq_of upd_same) .nil, sh_list [], sh_list [], true, by rw [eqv_list]; rfl, iteT ?_⟩
      have e14' := (e12'.trans e13).trans e14
      refine ev_sum (K := K) (σ := [some (.ref a), some (.ref b), some (.bl true), some (.ref p3), some .non, none, none, none, none, none, none]) (a := a) (b := b) (s := p3) (xs := xs) (ls := ls) (lot := lot) (c := ofN ns) (j := 3) rfl rfl rfl (show 7 < 11 by decide) (fun _ => rfl) (e14' a _ ha) (lots_up e14' hP) sm (.inr (st_of ((e13.trans e14) p3 _ hp3'))) (ex_t e14' hb) k3 (by omega) _ (Ex.refl _) _ fun H15 e15 => ?_
      rw [k1, decide_eq_true rfl]
      exact q H15 (e14'.trans e15)
    · rw [s1] at o3 ⊢
      rw [s2] at o4
      obtain ⟨p4, rfl, hp4⟩ : ∃ p, v4 = .ref p ∧ H11 p = some (.tup (bb.map V.int)) := o4
      cases (show v3 = .non from o3)
      have hbb := (bar_right s2).1
      have hbl : bb.length < 64 := Nat.lt_of_le_of_lt (bar_len s2) sm.fits.few
      obtain ⟨cn1, cn2⟩ := bar_cnt s2
      refine iteF ?_
      refine nx_op (q_if0 ((et_or (a := false) (et_nn rfl) fun _ => et_or (a := false) (et_isT rfl hp4) fun _ => et_asc rfl hp4 hbb hbl) H11 (Ex.refl H11) _ fun H12 e12 => iteF ?_))
      have e12' := e11'.trans e12
      have hp4' := e12 p4 _ hp4
      refine nx_op (q_as (lc_op (op_op ⟨.ref a, rfl, .ref b, rfl, sz_of (by simp), fun t ht => ⟨a, t, xs, [.ref b], rfl, rfl, Ex.new ht a _ (e12' a _ ha), upd_same, sz_of (by simp; omega), fun u hu => ?_⟩⟩)))
      have e13 : Ex H12 (upd (upd H12 t (.lst [.ref b])) u (.lst (xs ++ [.ref b]))) := (Ex.new ht).trans (Ex.new hu)
      have hu2 : (upd (upd H12 t (.lst [.ref b])) u (.lst (xs ++ [.ref b]))) u = some (.lst (xs ++ [.ref b])) := upd_same
      generalize upd (upd H12 t (.lst [.ref b])) u (.lst (xs ++ [.ref b])) = H13 at e13 hu2
      have e13' := e12'.trans e13
      have hPb : LotsP K H13 (xs ++ [.ref b]) (ls ++ [lot]) := paired_append (lots_up e13' hP) (.cons ⟨b, rfl, .inr (ex_t e13' hb)⟩ .nil)
      have comp := el_lcS (K := K) (σ := [some (.ref a), some (.ref b), some (.bl false), some .non, some (.ref p4), none, none, none, none, none, none]) (H := H13) (tl := tC (.ref u)) (te := tCB (rLenS K) (tCons (tLc (iSeq K (tVar 4)) (gName 9) (tTest (tOp (rIn K false) (tVar 9) (tVar 8))) (tVar 9) [9]) tNil)) (t := tYes) (j := 8) (vs := [8]) (xs := xs ++ [.ref b])
        (fun _ => true) (fun i => .int (((bb.filter fun x => decide (x ∈ (ls ++ [lot]).getD i [])).length : Nat) : Int)) (ev_s ev_c (sq_of hu2)) (by simp; omega) (fun _ => rfl) (fun _ _ _ _ _ => et_yes)
        (fun i x H14 e14 hx _ => by
          obtain ⟨l, hl, m, rfl, hm⟩ := pget hPb hx
          rw [getD_at hl]
          have inner := el_lcSq (K := K) (σ := [some (.ref a), some (.ref b), some (.bl false), some .non, some (.ref p4), none, none, none, some (.ref m), none, none]) (H := H14) (a := p4) (xs := bb.map V.int) (tl := tVar 4) (te := tVar 9) (t := tTest (tOp (rIn K false) (tVar 9) (tVar 8))) (j := 9) (vs := [9])
            (fun i => decide (bb.getD i 0 ∈ l)) (fun i => .int (bb.getD i 0)) (ev_var rfl) (.inr (st_of ((e13.trans e14) p4 _ hp4'))) (by rw [List.length_map]; omega) (fun _ => rfl)
            (fun i x H15 e15 hx => by
              obtain ⟨n, hn, rfl⟩ := int_at hx
              rw [getD_at hn, ← inV_ints]
              rcases hm.up (e14.trans e15) with hm | hm
              · exact et_test (ev_op (ev_var rfl) (ev_var rfl) (rv_isL hm rfl (flat_ints l)))
              · exact et_test (ev_op (ev_var rfl) (ev_var rfl) (rv_isT hm rfl (flat_ints l))))
            (fun i x H15 e15 hx _ => by
              obtain ⟨n, hn, rfl⟩ := int_at hx
              rw [getD_at hn]
              exact ev_var rfl)
          rw [given_of 0 bb (by rw [List.length_map]) (fun x => decide (x ∈ l)) V.int] at inner
          exact fun H15 e15 Q15 q15 => cb_op (a_op (inner H15 e15 _ fun p H16 hp e16 h16 => ⟨p, _, rfl, .inl (sq_of h16), by rw [List.length_map]; exact q15 H16 e16⟩)))
      have eg := given_of ([] : List Int) (ls ++ [lot]) (n := (xs ++ [V.ref b]).length) (by simp [hxl]) (fun _ => true) (fun l => V.int (((bb.filter fun x => decide (x ∈ l)).length : Nat) : Int))
      rw [List.filter_eq_self.mpr (fun _ _ => rfl), List.map_append] at eg
      rw [eg] at comp
      refine comp H13 (Ex.refl H13) _ fun mt H14 hmt e14 h14 => ?_
      have e14' := e13'.trans e14
      have comp2 := el_lcS (K := K) (σ := [some (.ref a), some (.ref b), some (.bl false), some .non, some (.ref p4), some (.ref mt), none, none, none, none, none]) (H := H14) (tl := tSl (rSlL K) (tVar 5) tNoPart (tPart (tUn (rU fun i => .int (-i)) (tC (.int 1))))) (te := tVar 10) (t := tMany) (j := 10) (vs := [10])
        (xs := ls.map fun l => V.int (((bb.filter fun x => decide (x ∈ l)).length : Nat) : Int)) (fun _ => false) (fun _ => .non)
        (by
          have h := el_sl (K := K) (σ := [some (.ref a), some (.ref b), some (.bl false), some .non, some (.ref p4), some (.ref mt), none, none, none, none, none]) (H := H14) (te := tVar 5) (tl := tNoPart) (th := tPart (tUn (rU fun i => .int (-i)) (tC (.int 1)))) (ev_var rfl) eo_none (eo_some (ev_un ev_c ru_neg)) (sq_of h14)
          have h2 : cutV ((ls.map fun l => V.int (((bb.filter fun x => decide (x ∈ l)).length : Nat) : Int)) ++ [V.int (((bb.filter fun x => decide (x ∈ lot)).length : Nat) : Int)]) none (some (-1)) = _ := cut_last
          exact EvL.s (by rw [← h2]; exact h)) (by rw [List.length_map]; omega) (fun _ => rfl)
        (fun i x H15 e15 hx => by
          rw [List.getElem?_map] at hx
          obtain ⟨l, hl, rfl⟩ : ∃ l, ls[i]? = some l ∧ x = V.int (((bb.filter fun x => decide (x ∈ l)).length : Nat) : Int) := by
            cases e : ls[i]? with
            | none => rw [e] at hx; cases hx
            | some l => rw [e] at hx; exact ⟨l, rfl, (Option.some.inj hx).symm⟩
          have hev := cn1 l (List.mem_of_getElem? hl)
          intro H16 e16 Q16 q16
          refine ⟨_, rfl, .inl ⟨_, rfl, _, 2, rfl, rfl, (show (0 : Int) < 2 by decide), rfl, _, rfl, ?_⟩⟩
          have en : decide (V.int ((((bb.filter fun x => decide (x ∈ l)).length : Nat) : Int) % 2) = V.int 1) = false := decide_eq_false fun h => by
            have := V.int.inj h
            omega
          rw [en]
          exact q16 H16 (Ex.refl H16)) (fun _ _ _ _ _ h => by cases h)
      refine s_re (an_op (op_op (comp2 H14 (Ex.refl H14) _ fun r2 H15 hr2 e15 h15 => l_op ⟨Nat.zero_le _, fun z2 hz2 => ?_⟩)))
      have e16 : Ex H15 (upd H15 z2 (.lst [])) := Ex.new hz2
      have hnone : ∀ n, given n (fun _ => false) (fun _ => V.non) = [] := fun n => by
        unfold given
        rw [List.filter_eq_nil_iff.mpr (fun _ _ => by simp)]
        rfl
      rw [hnone] at h15
      refine ⟨.list (intsD []), .list (intsD []), .lst (sq_of (e16 r2 _ h15)) .nil, .lst (sq_of upd_same) .nil, sh_list [], sh_list [], true, by rw [eqv_list]; rfl, iteT ?_⟩
      have h14' := (e15.trans e16) mt _ h14
      refine ⟨.ref mt, rfl, 1, rfl, mt, _, _, _, rfl, rfl, sq_of h14', at_last (z := V.int (((bb.filter fun x => decide (x ∈ lot)).length : Nat) : Int)), .inl ⟨_, rfl, _, 2, rfl, rfl, (show (0 : Int) < 2 by decide), rfl, ?_⟩⟩
      have en : decide (V.int ((((bb.filter fun x => decide (x ∈ lot)).length : Nat) : Int) % 2) = V.int 1) = true := decide_eq_true (congrArg V.int (by omega))
      rw [en]
      exact q _ ((e14'.trans e15).trans e16)
end
end KS
namespace KS
open PySem PySem.Spec PyProof.Rows L2 KR KM Evl StX
/-! ### some thirty lots in a row -/
def lsN (N : Nat) : List (List Int) := (List.range N).map fun (i : Nat) => ([(i : Int), (i : Int) + 1] : List Int)
theorem lsN_len (N : Nat) : (lsN N).length = N := by
  unfold lsN
  rw [List.length_map, List.length_range]
theorem lsN_at {N k : Nat} (h : k < N) : (lsN N)[k]? = some [(k : Int), (k : Int) + 1] := by
  unfold lsN
  rw [List.getElem?_map, List.getElem?_range h]
  rfl
theorem XL_eq {l : List Int} (h : l.Nodup) (a : Int) : XL l (fun x => decide (x = a)) = decide (a ∈ l) := by
  induction l with
  | nil => rfl
  | cons y l ih =>
    obtain ⟨h1, h2⟩ := List.nodup_cons.mp h
    show (decide (y = a) ^^ XL l (fun x => decide (x = a))) = _
    rw [ih h2]
    by_cases e : y = a
    · subst e
      simp [h1]
    · have e2 : ¬ a = y := fun z => e z.symm
      simp [e, e2]
theorem XL_pair {l : List Int} (h : l.Nodup) {a c : Int} (hn : a ≠ c) : XL l (fun x => decide (x ∈ [a, c])) = (decide (a ∈ l) ^^ decide (c ∈ l)) := by
  rw [← XL_eq h a, ← XL_eq h c, ← XL_xor]
  refine XL_congr fun x _ => ?_
  by_cases e : x = a
  · subst e
    simp [hn]
  · simp [e]
theorem XL_eqN {l : List Nat} (h : l.Nodup) (a : Nat) : XL l (fun x => decide (x = a)) = decide (a ∈ l) := by
  induction l with
  | nil => rfl
  | cons y l ih =>
    obtain ⟨h1, h2⟩ := List.nodup_cons.mp h
    show (decide (y = a) ^^ XL l (fun x => decide (x = a))) = _
    rw [ih h2]
    by_cases e : y = a
    · subst e
      simp [h1]
    · have e2 : ¬ a = y := fun z => e z.symm
      simp [e, e2]
theorem row_sum {N : Nat} (hN : 0 < N) : sumF (lsN N) [0, (N : Int)] = some (List.range N) ∧ barF (lsN N) [0, (N : Int)] = none := by
  rcases one_of_both (lsN N) [0, (N : Int)] with ⟨ns, h1, h2⟩ | ⟨b, h1, h2⟩
  · refine ⟨?_, h2⟩
    obtain ⟨a1, a2, a3⟩ := sum_right h1
    rw [lsN_len] at a2
    have nd : ns.Nodup := a1.imp fun z => by omega
    -- each mark k + 1 is in lots k and k + 1
    have key : ∀ x : Nat, XL ns (fun k => match (lsN N)[k]? with | some l => decide ((x : Int) ∈ l) | none => false) = (decide (x ∈ ns) ^^ XL ns (fun k => decide (k + 1 = x))) := fun x => by
      rw [← XL_eqN nd x, ← XL_xor]
      refine XL_congr fun k hk => ?_
      rw [lsN_at (a2 k hk)]
      show decide ((x : Int) ∈ [(k : Int), (k : Int) + 1]) = _
      by_cases e : k = x
      · subst e
        simp
      · by_cases e2 : k + 1 = x
        · subst e2
          simp
        · have e3 : ¬ (x : Int) = k := by omega
          have e4 : ¬ (x : Int) = (k : Int) + 1 := by omega
          simp [e, e2, e3, e4]
    have all : ∀ x : Nat, x < N → x ∈ ns := fun x => by
      induction x with
      | zero =>
        intro _
        have h := (a3 ((0 : Nat) : Int)).trans (key 0)
        have e : XL ns (fun k => decide (k + 1 = 0)) = false := (XL_congr fun k _ => by simp).trans XL_false
        rw [e] at h
        simpa using h
      | succ x ih =>
        intro hx
        have hm := ih (by omega)
        have h := (a3 ((x + 1 : Nat) : Int)).trans (key (x + 1))
        have e : XL ns (fun k => decide (k + 1 = x + 1)) = true := by
          have : XL ns (fun k => decide (k + 1 = x + 1)) = XL ns (fun k => decide (k = x)) := XL_congr fun k _ => decide_eq_decide.mpr (by omega)
          rw [this, XL_eqN nd, decide_eq_true hm]
        have e2 : decide (((x + 1 : Nat) : Int) ∈ [0, (N : Int)]) = false := decide_eq_false (by
          intro z
          rcases List.mem_cons.mp z with z | z
          · omega
          · have := List.mem_singleton.mp z
            omega)
        rw [e, e2] at h
        simpa using h
    have : ns = List.range N := by
      have e : ofN ns = ofN (List.range N) := asc_ext (List.pairwise_map.mpr (a1.imp fun z => Int.ofNat_lt.mpr z)) (List.pairwise_map.mpr ((List.pairwise_lt_range (n := N)).imp fun z => Int.ofNat_lt.mpr z)) fun x => by
        rw [List.mem_map, List.mem_map]
        constructor
        · rintro ⟨k, hk, rfl⟩
          exact ⟨k, List.mem_range.mpr (a2 k hk), rfl⟩
        · rintro ⟨k, hk, rfl⟩
          exact ⟨k, all k (List.mem_range.mp hk), rfl⟩
      have h := congrArg (List.map Int.toNat) e
      rw [List.map_map, List.map_map] at h
      exact (List.map_id ns).symm.trans (h.trans (List.map_id _))
    rw [h1, this]
  · exfalso
    obtain ⟨b0, b1, b2⟩ := bar_right h2
    have nd : b.Nodup := lt_nd b0
    have step : ∀ k : Nat, k < N → decide ((k : Int) ∈ b) = decide ((k : Int) + 1 ∈ b) := fun k hk => by
      have h := b1 _ (List.mem_of_getElem? (lsN_at hk))
      rw [XL_pair nd (by omega)] at h
      cases e1 : decide ((k : Int) ∈ b) <;> cases e2 : decide ((k : Int) + 1 ∈ b) <;> rw [e1, e2] at h <;> first | rfl | cases h
    have all : ∀ k : Nat, k ≤ N → decide ((k : Int) ∈ b) = decide ((0 : Int) ∈ b) := fun k => by
      induction k with
      | zero => exact fun _ => rfl
      | succ k ih => exact fun hk => (step k (by omega)).symm.trans (ih (by omega))
    rw [XL_pair nd (by omega), all N (Nat.le_refl _)] at b2
    cases e : decide ((0 : Int) ∈ b) <;> rw [e] at b2 <;> cases b2
theorem row_none (N : Nat) : sumF (lsN N) [0, (N : Int) + 1] = none := by
  rcases one_of_both (lsN N) [0, (N : Int) + 1] with ⟨ns, h1, h2⟩ | ⟨b, h1, h2⟩
  · exfalso
    obtain ⟨a1, a2, a3⟩ := sum_right h1
    rw [lsN_len] at a2
    have h := a3 ((N : Int) + 1)
    have e : XL ns (fun k => match (lsN N)[k]? with | some l => decide ((N : Int) + 1 ∈ l) | none => false) = false := (XL_congr fun k hk => by
      have := a2 k hk
      rw [lsN_at this]
      show decide ((N : Int) + 1 ∈ [(k : Int), (k : Int) + 1]) = false
      refine decide_eq_false fun z => ?_
      rcases List.mem_cons.mp z with z | z
      · omega
      · have := List.mem_singleton.mp z
        omega).trans XL_false
    have e2 : decide ((N : Int) + 1 ∈ [(0 : Int), (N : Int) + 1]) = true := decide_eq_true (by simp)
    rw [e2] at h
    exact absurd (h.trans e) (by decide)
  · exact h1
end KS
namespace KS
open PySem PySem.Spec PyProof.Rows L2 KR KM Evl StX
theorem q_par {i j : Nat} {ta : TA} {u : TS} {D : Ends} {σ : L2.St} {H : Hp} (h : ta σ H fun vs H1 => ∃ v w, vs = [v, w] ∧ u D ((σ.set i (some v)).set j (some w)) H1) : tSeq (tPar i j ta) u D σ H := h
theorem t_op {t : TA} {σ : L2.St} {H : Hp} {Q : VK} (h : t σ H fun xs H1 => xs.length ≤ sizeLine ∧ ∀ p, H1 p = none → Q (.ref p) (upd H1 p (.tup xs))) : tTup t σ H Q := h
theorem rgV_N (N : Nat) : rgV 0 (N : Int) = (ofN (List.range N)).map V.int := by
  unfold rgV
  rw [Int.sub_zero, Int.toNat_natCast, List.map_map]
  refine List.map_congr_left fun i _ => ?_
  show V.int (0 + (i : Int)) = V.int (i : Int)
  rw [Int.zero_add]
theorem row_fits {N : Nat} {m : Int} (h : N ≤ 34) (h0 : 0 ≤ m) (h1 : m ≤ (N : Int) + 1) : Fits (lsN N) [0, m] := by
  have h2 := flat_len (m := 2) (ls := lsN N) fun l hl => by
    unfold lsN at hl
    obtain ⟨i, _, rfl⟩ := List.mem_map.mp hl
    exact Nat.le_refl 2
  rw [lsN_len] at h2
  refine ⟨by show (lsN N).flatten.length + 2 ≤ 2000; omega, by rw [lsN_len]; omega, ?_⟩
  have h3 := List.Nodup.length_le_of_subset (l₂ := (List.range (N + 2)).map Int.ofNat) (marks_nd (lsN N) [0, m]) fun x hx => by
    have hb : 0 ≤ x ∧ x ≤ (N : Int) + 1 := by
      rcases mem_marks.mp hx with ⟨l, hl, hxl⟩ | hx
      · unfold lsN at hl
        obtain ⟨i, hi, rfl⟩ := List.mem_map.mp hl
        have := List.mem_range.mp hi
        rcases List.mem_cons.mp hxl with z | z
        · omega
        · have := List.mem_singleton.mp z
          omega
      · rcases List.mem_cons.mp hx with z | z
        · omega
        · have := List.mem_singleton.mp z
          omega
    exact List.mem_map.mpr ⟨x.toNat, List.mem_range.mpr (by omega), by show ((x.toNat : Nat) : Int) = x; omega⟩
  rw [List.length_map, List.length_range] at h3
  omega
section
variable {P : Program} {w : World} {K : PySem.W.Frag} {mg : Str → Option Value} {base : Heap}
/-- over a range: each item a new object -/
theorem eo_rng {σ : L2.St} {H : Hp} {β : Type} {G : HO → β → Prop} {n : Nat} {ta : TA} {te : TE} {j : Nat} {vs : List Nat} (ys : List β) (hl : n = ys.length) (h : EvA ta σ H [.int (n : Int)]) (hz : ys.length ≤ 40000) (hw : ∀ x, wipe ((wipe σ vs).set j (some x)) vs = wipe σ vs)
    (he : ∀ (i : Nat) (y : β) H1, Ex H H1 → i < n → ys[i]? = some y → EvF G te ((wipe σ vs).set j (some (.int (0 + (i : Int))))) H1 y) : EvO' G (tLc (iRng1 ta) (gName j) tYes te vs) σ H ys := fun H0 e Q q => h H0 e _ fun H1 e1 => ⟨(n : Int), rfl, by omega, by omega, fun D hD => by
  show ∃ W : Nat → Nat → Hp → Prop, _
  refine lc_it (n := n) walk_range (Co G H1 ys D) (Co.start hD) (fun _ _ _ _ => trivial) (fun i x H' H'' hi p hy => ?_) (fun H' p => ?_)
  · obtain ⟨rfl, rfl⟩ := hy
    have hi2 : i < ys.length := by omega
    exact ⟨hw _, co_turn (List.getElem?_eq_getElem hi2) (by omega) p (he i _ _ (e.trans e1) hi (List.getElem?_eq_getElem hi2))⟩
  · rw [hl] at p
    obtain ⟨p2, vs', p3, p4⟩ := p.end_
    exact q D vs' H' (fresh_back e1 hD) (e1.trans p2) p3 p4⟩
abbrev isT (o : HO) (c : List Int) : Prop := o = .tup (c.map V.int)
abbrev sLong : Stmt := topS 17
abbrev nLong : List Str := ["_law_pen_here", "_law_many", "_law_lots", "_law_far", "_law_bar", "_law_met", "_law_at", "_law_one", "_law_mark", "_law_count"]
theorem scLong : FnScope nLong ["_law_pen_here"] (defScope sLong) := ⟨rfl, rfl, rfl, by decide +kernel, rfl, by decide +kernel, by decide +kernel⟩
def spLong : Sp := fun vs H Q _ => ∃ (p l : Addr) (ns : List Int) (n : Int), vs = [.ref p] ∧ Pen H p l ns n ∧ n ≤ 100000 ∧ ∀ H2, ExP p H H2 → Q (.bl true) H2
abbrev tMany9 : TT := tTest (tOp rEq (tOp (rI (fun _ j => 0 < j) fun i j => .int (i % j)) (tCB rInt1 (tCons (tVar 9) tNil)) (tC (.int 2))) (tC (.int 1)))
theorem ok_long {f : Addr} {fd : FuncData} {k : Nat} (F : Fun K "_law_long_right" "_law_long_right" sLong f fd) (B : Bu mg) (A_ : AsA K mg) (D_ : FnA K mg "_law_draw" sDraw ["_law_pen_here", "_law_many"]) : FnOk P w K mg base CX0 (k + 4) f fd ["_law_pen_here"] spLong := by
  have GS : FnOk P w K mg base CX0 (k + 3) A_.sn.f A_.sn.fd ["lots", "lot"] (spSN K) := ok_sn A_.sn.F B A_.toPrA
  have GB : FnOk P w K mg base CX0 (k + 3) A_.bar.f A_.bar.fd ["lots", "lot"] (spBar K) := ok_bar A_.bar.F B A_.toPrA
  have GD : FnOk P w K mg base CX0 (k + 1) D_.f D_.fd ["_law_pen_here", "_law_many"] spDraw := ok_draw D_.F B
  refine F.ok scLong (fun vs H Q E h => ?_) (fun cdv A outer s H vs Q E hr h => ?_)
  · obtain ⟨p, l, ns, n, rfl, _⟩ := h
    rfl
  · obtain ⟨p, l, ns, n, rfl, hp, hn, q⟩ := h
    have hu := hu_of hr
    have hu64 := hr.units
    have hr1 : Room (k + 1) _ := hr.mono (by omega)
    refine ⟨_, pss_cons (ps_set (i := 1) scLong.nd rfl (Or.inl rfl) (pe_op op_add pe_int (pe_call GD hr1 (by rfl) D_.g D_.F.kp D_.b .nil pass0 (pa_cons (pv 0) (pa_cons pe_int pa_nil)))))
      (pss_cons (ps_par (i := 2) (j := 3) rfl scLong.nd rfl rfl (by decide) rfl rfl (pa_cons
          (pe_lc (own := [("_law_at", 6)]) (g := gName 6) (te := tTup (tCons (tVar 6) (tCons (tOp (rI0 fun i j => .int (i + j)) (tVar 6) (tC (.int 1))) tNil))) rfl scLong.nd (pi_range1 rfl B.range (pa_cons (pv 1) pa_nil)) (blkOk_by (N := nLong) (sc := defScope sLong) (by decide +kernel))
            (fun _ _ _ _ _ => pg_name (i := 6) scLong.nd rfl (Or.inl rfl)) (fun _ _ _ _ _ => pts_nil) (fun _ _ _ _ _ => pe_tup (pa_cons (pv 6) (pa_cons (pe_op op_add (pv 6) pe_int) pa_nil))))
          (pa_cons (pe_tup (pa_cons pe_int (pa_cons (pe_op op_add (pv 1) pe_int) pa_nil))) pa_nil)) rfl)
      (pss_cons (ps_if (PW.pt (pw_or (pt_cmpR (op_neD hu64) (pe_call GS hr (by rfl) A_.sn.g A_.sn.F.kp A_.sn.b .nil pass0 (pa_cons (pv 2) (pa_cons (pe_tup (pa_cons pe_int (pa_cons (pv 1) pa_nil))) pa_nil)))
            (pe_tupleOf rfl B.tuple (pe_listRg rfl rfl B.list (prg_1 rfl B.range (pv 1)))) (nomark _))
          (pw_or1 (pt_cmp (pc_notN (pe_call GB hr (by rfl) A_.bar.g A_.bar.F.kp A_.bar.b .nil pass0 (pa_cons (pv 2) (pa_cons (pe_tup (pa_cons pe_int (pa_cons (pv 1) pa_nil))) pa_nil)))))))) (pss_one (ps_ret pe_bl)) pss_nil)
      (pss_cons (ps_set (i := 4) scLong.nd rfl (Or.inr rfl) (pe_call GB hr (by rfl) A_.bar.g A_.bar.F.kp A_.bar.b .nil pass0 (pa_cons (pv 2) (pa_cons (pv 3) pa_nil))))
      (pss_cons (ps_if (PW.pt (pw_or (pt_cmp (pc_notN (pe_call GS hr (by rfl) A_.sn.g A_.sn.F.kp A_.sn.b .nil pass0 (pa_cons (pv 2) (pa_cons (pv 3) pa_nil))))) (pw_or (pt_not (pt_truth (pe_callB call_isi rfl B.isinstance boot_isinstance (pa_cons (pv 4) (pa_cons (pe_bltn (v := V.ty "tuple") rfl B.tuple boot_tuple rfl) pa_nil))) (by intro _; rfl)))
            (pw_or1 (pt_cmpR (op_neD hu64) (pe_callTy call_list_of rfl B.list boot_list (pa_cons (pv 4) pa_nil)) (pe_callB (cr_sortedSet rfl) rfl B.sorted boot_sorted (pa_cons (pe_callTy (cr_setT rfl) rfl B.set boot_set (pa_cons (pv 4) pa_nil)) pa_nil)) (nomark _)))))) (pss_one (ps_ret pe_bl)) pss_nil)
      (pss_cons (ps_setLc (i := 5) (own := [("_law_one", 7)]) (g := gName 7) (te := tCB (rLenS K) (tCons (tLc (iSeq K (tVar 4)) (gName 8) (tTest (tOp (rIn K false) (tVar 8) (tVar 7))) (tVar 8) [8]) tNil)) rfl scLong.nd rfl rfl rfl
          (pi_list (pe_op op_cat (pv 2) (pe_lst (pa_cons (pv 3) pa_nil)))) (blkOk_by (N := nLong) (sc := defScope sLong) (by decide +kernel)) (fun _ _ _ _ _ => pg_name (i := 7) scLong.nd rfl (Or.inr rfl)) (fun _ _ _ _ _ => pts_nil)
          (fun _ _ _ _ _ => pe_callB call_len_seq rfl B.len PySem.boot_len (pa_cons (pe_lc (own := [("_law_mark", 8)]) (g := gName 8) rfl scLong.nd (pi_seq (pv 4)) (blkOk_by (N := nLong) (sc := relS _ (defScope sLong)) (by decide +kernel)) (fun _ _ _ _ _ => pg_name (i := 8) scLong.nd rfl (Or.inl rfl))
            (fun _ _ _ _ _ => pts_one (pt_cmpR op_in_seq (pv 8) (pv 7) (by rfl))) (fun _ _ _ _ _ => pv 8)) pa_nil)))
      (pss_one (ps_ret (pe_and (pe_cmpR (op_eqD hu64) (pe_lc (own := [("_law_count", 9)]) (g := gName 9) (tt := tMany9) rfl scLong.nd (pi_list (pe_slice sl_list (pv 5) po_none (po_some (pe_un un_neg pe_int)))) (blkOk_by (N := nLong) (sc := defScope sLong) (by decide +kernel)) (fun _ _ _ _ _ => pg_name (i := 9) scLong.nd rfl (Or.inl rfl))
            (fun _ _ _ _ _ => pts_one (pt_cmpR op_eq (pe_op op_mod (pe_callTy call_int1 rfl B.int boot_int (pa_cons (pv 9) pa_nil)) pe_int) pe_int (nomark _))) (fun _ _ _ _ _ => pv 9)) (pe_lst pa_nil) (nomark _))
          (pe_one (pe_cmpR op_eq (pe_op op_mod (pe_callTy call_int1 rfl B.int boot_int (pa_cons (pe_ix ix_list (pv 5) (pe_un un_neg pe_int) (fun _ _ => rfl)) pa_nil)) pe_int) pe_int (nomark _))))))))))), ?_⟩
    refine q_as (op_op (c_op ⟨.ref p, rfl, p, l, ns, n, 9, rfl, hp, hn, by decide, by decide, fun v H1 v0 v1 e1 hp1 => ⟨26, v, rfl, rfl, ?_⟩⟩))
    obtain ⟨N, hN⟩ : ∃ N : Nat, 26 + v = (N : Int) := ⟨(26 + v).toNat, by omega⟩
    have hN1 : 26 ≤ N := by omega
    have hN2 : N ≤ 34 := by omega
    show (tSeq _ _) _ ([some (.ref p), some (.int (26 + v)), none, none, none, none, none, none, none, none] : L2.St) H1
    rw [hN]
    have hNl := lsN_len N
    refine q_par (a_op (eo_rng (G := isT) (σ := [some (.ref p), some (.int (N : Int)), none, none, none, none, none, none, none, none]) (H := H1) (n := N) (ta := tCons (tVar 1) tNil) (te := tTup (tCons (tVar 6) (tCons (tOp (rI0 fun i j => .int (i + j)) (tVar 6) (tC (.int 1))) tNil))) (j := 6) (vs := [6])
      (lsN N) hNl.symm (fun H9 e9 Q9 q9 => ⟨_, rfl, q9 H9 (Ex.refl H9)⟩) (by omega) (fun _ => rfl) (fun i y H2 e2 hi hy => by
        rw [lsN_at hi] at hy
        cases hy
        intro H3 e3 Q3 q3
        refine ⟨_, rfl, _, rfl, 0 + (i : Int), 1, rfl, rfl, sz_of (by simp), fun t ht => q3 t _ _ ht (Ex.new ht) upd_same ?_⟩
        show HO.tup [V.int (0 + (i : Int)), V.int (0 + (i : Int) + 1)] = HO.tup [V.int (i : Int), V.int ((i : Int) + 1)]
        rw [Int.zero_add]) H1 (Ex.refl H1) _ fun a xs H2 ha0 e2 ha hPo => ?_))
    refine t_op ⟨.int (N : Int), rfl, (N : Int), 1, rfl, rfl, sz_of (by simp), fun b hb0 => ⟨.ref a, .ref b, rfl, ?_⟩⟩
    have e3 : Ex H2 (upd H2 b (.tup [.int 0, .int ((N : Int) + 1)])) := Ex.new hb0
    have hb : (upd H2 b (.tup [.int 0, .int ((N : Int) + 1)])) b = some (.tup (([0, (N : Int) + 1] : List Int).map V.int)) := upd_same
    generalize upd H2 b (.tup [.int 0, .int ((N : Int) + 1)]) = H3 at e3 hb
    have ha3 := e3 a _ ha
    have hP : LotsP K H3 xs (lsN N) := L2.Paired.mapP hPo fun v c ⟨a', o', x1, x2, x3⟩ => ⟨a', x1, .inr (st_of (by rw [e3 a' _ x2, x3]))⟩
    have hxl : xs.length = (lsN N).length := Paired.length hP
    have hx1 : ExP p H H3 := e1.trans (Ex.p (e2.trans e3))
    clear hPo ha e2 e3
    -- the lot of all
    have hl1 : LotsP K H3 xs (lsN N) := hP
    refine q_if0 ⟨.ref a, rfl, .int (N : Int), rfl, sz_of (by simp), fun t1 ht1 => ?_⟩
    have f1 : Ex H3 (upd H3 t1 (.tup [.int 0, .int (N : Int)])) := Ex.new ht1
    refine ⟨.ref a, .ref t1, lsN N, [0, (N : Int)], rfl, ⟨a, xs, rfl, .inl (sq_of (f1 a _ ha3)), lots_up f1 hP⟩, ⟨t1, rfl, .inr (st_of upd_same)⟩, row_fits hN2 (by omega) (by omega), ?_⟩
    rw [(row_sum (show 0 < N by omega)).1]
    intro p3 H4 hp3 e4 h4
    have f4 := f1.trans e4
    refine ⟨.int (N : Int), rfl, (N : Int), rfl, RgOk.of_le (by decide) (by omega) (by decide) (by omega), fun q1 hq1 => .inl ⟨q1, _, rfl, sq_of upd_same, fun u1 hu1 => ?_⟩⟩
    rw [rgV_N]
    have f5 := (Ex.new (o := HO.lst (rgV 0 (N : Int))) hq1).trans (Ex.new (o := HO.tup ((ofN (List.range N)).map V.int)) hu1)
    refine ⟨.tuple (intsD (ofN (List.range N))), .tuple (intsD (ofN (List.range N))), .tup (st_of (by rw [rgV_N] at f5; exact f5 p3 _ h4)) (dp_ints _), .tup (st_of upd_same) (dp_ints _), sh_tup _, sh_tup _, _, rfl, ?_⟩
    rw [rgV_N] at f5
    rw [eqv_tup, decide_eq_true rfl]
    refine iteF ?_
    have f6 := f4.trans f5
    generalize upd (upd H4 q1 (.lst ((ofN (List.range N)).map V.int))) u1 (.tup ((ofN (List.range N)).map V.int)) = H6 at f5 f6
    refine ⟨.ref a, rfl, .int (N : Int), rfl, sz_of (by simp), fun t2 ht2 => ?_⟩
    have f7 : Ex H6 (upd H6 t2 (.tup [.int 0, .int (N : Int)])) := Ex.new ht2
    refine ⟨.ref a, .ref t2, lsN N, [0, (N : Int)], rfl, ⟨a, xs, rfl, .inl (sq_of ((f6.trans f7) a _ ha3)), lots_up (f6.trans f7) hP⟩, ⟨t2, rfl, .inr (st_of upd_same)⟩, row_fits hN2 (by omega) (by omega), ?_⟩
    rw [(row_sum (show 0 < N by omega)).2]
    intro H8 e8
    refine ⟨_, rfl, ?_⟩
    rw [decide_eq_true rfl]
    refine iteF ?_
    have f8 := (f6.trans f7).trans e8
    -- the one that they never make
    have hN' := row_none N
    obtain ⟨bb, s2⟩ : ∃ bb, barF (lsN N) [0, (N : Int) + 1] = some bb := by
      rcases one_of_both (lsN N) [0, (N : Int) + 1] with ⟨ns, h1, _⟩ | ⟨b, _, h2⟩
      · rw [hN'] at h1
        cases h1
      · exact ⟨b, h2⟩
    have fit := row_fits (N := N) (m := (N : Int) + 1) hN2 (by omega) (by omega)
    refine nx_op (q_as (c_op ⟨.ref a, rfl, .ref b, rfl, .ref a, .ref b, lsN N, [0, (N : Int) + 1], rfl, ⟨a, xs, rfl, .inl (sq_of (f8 a _ ha3)), lots_up f8 hP⟩, ⟨b, rfl, .inr (st_of (f8 b _ hb))⟩, fit, ?_⟩))
    rw [s2]
    intro p4 H9 hp4n e9 hp4
    have f9 := f8.trans e9
    refine q_if0 ⟨.ref a, rfl, .ref b, rfl, .ref a, .ref b, lsN N, [0, (N : Int) + 1], rfl, ⟨a, xs, rfl, .inl (sq_of (f9 a _ ha3)), lots_up f9 hP⟩, ⟨b, rfl, .inr (st_of (f9 b _ hb))⟩, fit, ?_⟩
    rw [hN']
    intro H11 e11
    refine ⟨_, rfl, ?_⟩
    rw [decide_eq_true rfl]
    refine iteF ?_
    have hbb := (bar_right s2).1
    have hbl : bb.length < 64 := Nat.lt_of_le_of_lt (bar_len s2) fit.few
    obtain ⟨cn1, cn2⟩ := bar_cnt s2
    refine (et_or (a := false) (b := false) (et_isT rfl (e11 p4 _ hp4)) fun _ => et_asc rfl (e11 p4 _ hp4) hbb hbl) H11 (Ex.refl H11) _ fun H12 e12 => iteF ?_
    have hp4' := (e11.trans e12) p4 _ hp4
    have e12' := (f9.trans e11).trans e12
    refine nx_op (q_as (lc_op (op_op ⟨.ref a, rfl, .ref b, rfl, sz_of (by simp), fun t ht => ⟨a, t, xs, [.ref b], rfl, rfl, Ex.new ht a _ (e12' a _ ha3), upd_same, sz_of (by simp; omega), fun u hu => ?_⟩⟩)))
    have e13 : Ex H12 (upd (upd H12 t (.lst [.ref b])) u (.lst (xs ++ [.ref b]))) := (Ex.new ht).trans (Ex.new hu)
    have hu2 : (upd (upd H12 t (.lst [.ref b])) u (.lst (xs ++ [.ref b]))) u = some (.lst (xs ++ [.ref b])) := upd_same
    generalize upd (upd H12 t (.lst [.ref b])) u (.lst (xs ++ [.ref b])) = H13 at e13 hu2
    have e13' := e12'.trans e13
    have hPb : LotsP K H13 (xs ++ [.ref b]) (lsN N ++ [[0, (N : Int) + 1]]) := paired_append (lots_up e13' hP) (.cons ⟨b, rfl, .inr (st_of (e13' b _ hb))⟩ .nil)
    have comp := el_lcS (K := K) (σ := [some (.ref p), some (.int (N : Int)), some (.ref a), some (.ref b), some (.ref p4), none, none, none, none, none]) (H := H13) (tl := tC (.ref u)) (te := tCB (rLenS K) (tCons (tLc (iSeq K (tVar 4)) (gName 8) (tTest (tOp (rIn K false) (tVar 8) (tVar 7))) (tVar 8) [8]) tNil)) (t := tYes) (j := 7) (vs := [7]) (xs := xs ++ [.ref b])
      (fun _ => true) (fun i => .int (((bb.filter fun x => decide (x ∈ (lsN N ++ [[0, (N : Int) + 1]]).getD i [])).length : Nat) : Int)) (ev_s ev_c (sq_of hu2)) (by simp; omega) (fun _ => rfl) (fun _ _ _ _ _ => et_yes)
      (fun i x H14 e14 hx _ => by
        obtain ⟨l, hl, m, rfl, hm⟩ := pget hPb hx
        rw [getD_at hl]
        have inner := el_lcSq (K := K) (σ := [some (.ref p), some (.int (N : Int)), some (.ref a), some (.ref b), some (.ref p4), none, none, some (.ref m), none, none]) (H := H14) (a := p4) (xs := bb.map V.int) (tl := tVar 4) (te := tVar 8) (t := tTest (tOp (rIn K false) (tVar 8) (tVar 7))) (j := 8) (vs := [8])
          (fun i => decide (bb.getD i 0 ∈ l)) (fun i => .int (bb.getD i 0)) (ev_var rfl) (.inr (st_of ((e13.trans e14) p4 _ hp4'))) (by rw [List.length_map]; omega) (fun _ => rfl)
          (fun i x H15 e15 hx => by
            obtain ⟨n, hn, rfl⟩ := int_at hx
            rw [getD_at hn, ← inV_ints]
            rcases hm.up (e14.trans e15) with hm | hm
            · exact et_test (ev_op (ev_var rfl) (ev_var rfl) (rv_isL hm rfl (flat_ints l)))
            · exact et_test (ev_op (ev_var rfl) (ev_var rfl) (rv_isT hm rfl (flat_ints l))))
          (fun i x H15 e15 hx _ => by
            obtain ⟨n, hn, rfl⟩ := int_at hx
            rw [getD_at hn]
            exact ev_var rfl)
        rw [given_of 0 bb (by rw [List.length_map]) (fun x => decide (x ∈ l)) V.int] at inner
        exact fun H15 e15 Q15 q15 => cb_op (a_op (inner H15 e15 _ fun p H16 hp e16 h16 => ⟨p, _, rfl, .inl (sq_of h16), by rw [List.length_map]; exact q15 H16 e16⟩)))
    have eg := given_of ([] : List Int) (lsN N ++ [[0, (N : Int) + 1]]) (n := (xs ++ [V.ref b]).length) (by simp [hxl]) (fun _ => true) (fun l => V.int (((bb.filter fun x => decide (x ∈ l)).length : Nat) : Int))
    rw [List.filter_eq_self.mpr (fun _ _ => rfl), List.map_append] at eg
    rw [eg] at comp
    refine comp H13 (Ex.refl H13) _ fun mt H14 hmt e14 h14 => ?_
    have e14' := e13'.trans e14
    have comp2 := el_lcS (K := K) (σ := [some (.ref p), some (.int (N : Int)), some (.ref a), some (.ref b), some (.ref p4), some (.ref mt), none, none, none, none]) (H := H14) (tl := tSl (rSlL K) (tVar 5) tNoPart (tPart (tUn (rU fun i => .int (-i)) (tC (.int 1))))) (te := tVar 9) (t := tMany9) (j := 9) (vs := [9])
      (xs := (lsN N).map fun l => V.int (((bb.filter fun x => decide (x ∈ l)).length : Nat) : Int)) (fun _ => false) (fun _ => .non)
      (by
        have h := el_sl (K := K) (σ := [some (.ref p), some (.int (N : Int)), some (.ref a), some (.ref b), some (.ref p4), some (.ref mt), none, none, none, none]) (H := H14) (te := tVar 5) (tl := tNoPart) (th := tPart (tUn (rU fun i => .int (-i)) (tC (.int 1)))) (ev_var rfl) eo_none (eo_some (ev_un ev_c ru_neg)) (sq_of h14)
        have h2 : cutV (((lsN N).map fun l => V.int (((bb.filter fun x => decide (x ∈ l)).length : Nat) : Int)) ++ [V.int (((bb.filter fun x => decide (x ∈ ([0, (N : Int) + 1] : List Int))).length : Nat) : Int)]) none (some (-1)) = _ := cut_last
        exact EvL.s (by rw [← h2]; exact h)) (by rw [List.length_map]; omega) (fun _ => rfl)
      (fun i x H15 e15 hx => by
        rw [List.getElem?_map] at hx
        obtain ⟨l, hl, rfl⟩ : ∃ l, (lsN N)[i]? = some l ∧ x = V.int (((bb.filter fun x => decide (x ∈ l)).length : Nat) : Int) := by
          cases e : (lsN N)[i]? with
          | none => rw [e] at hx; cases hx
          | some l => rw [e] at hx; exact ⟨l, rfl, (Option.some.inj hx).symm⟩
        have hev := cn1 l (List.mem_of_getElem? hl)
        intro H16 e16 Q16 q16
        refine ⟨_, rfl, .inl ⟨_, rfl, _, 2, rfl, rfl, (show (0 : Int) < 2 by decide), rfl, _, rfl, ?_⟩⟩
        have en : decide (V.int ((((bb.filter fun x => decide (x ∈ l)).length : Nat) : Int) % 2) = V.int 1) = false := decide_eq_false fun h => by
          have := V.int.inj h
          omega
        rw [en]
        exact q16 H16 (Ex.refl H16)) (fun _ _ _ _ _ h => by cases h)
    refine s_re (an_op (op_op (comp2 H14 (Ex.refl H14) _ fun r2 H15 hr2 e15 h15 => l_op ⟨Nat.zero_le _, fun z2 hz2 => ?_⟩)))
    have e16 : Ex H15 (upd H15 z2 (.lst [])) := Ex.new hz2
    have hnone : ∀ n, given n (fun _ => false) (fun _ => V.non) = [] := fun n => by
      unfold given
      rw [List.filter_eq_nil_iff.mpr (fun _ _ => by simp)]
      rfl
    rw [hnone] at h15
    refine ⟨.list (intsD []), .list (intsD []), .lst (sq_of (e16 r2 _ h15)) .nil, .lst (sq_of upd_same) .nil, sh_list [], sh_list [], true, by rw [eqv_list]; rfl, iteT ?_⟩
    have h14' := (e15.trans e16) mt _ h14
    refine ⟨.ref mt, rfl, 1, rfl, mt, _, _, _, rfl, rfl, sq_of h14', at_last (z := V.int (((bb.filter fun x => decide (x ∈ ([0, (N : Int) + 1] : List Int))).length : Nat) : Int)), .inl ⟨_, rfl, _, 2, rfl, rfl, (show (0 : Int) < 2 by decide), rfl, ?_⟩⟩
    have en : decide (V.int ((((bb.filter fun x => decide (x ∈ ([0, (N : Int) + 1] : List Int))).length : Nat) : Int) % 2) = V.int 1) = true := decide_eq_true (congrArg V.int (by omega))
    rw [en]
    exact q _ (hx1.trans (Ex.p ((e14'.trans e15).trans e16)))
end
end KS
namespace KS
open PySem PySem.Spec PyProof.Rows L2 KR KM Evl StX
section
variable {P : Program} {w : World} {K : PySem.W.Frag} {mg : Str → Option Value} {base : Heap}
structure LawA (K : PySem.W.Frag) (mg : Str → Option Value) where
  as : AsA K mg
  pen : FnA K mg "_law_pen" sPen ["_law_script"]
  draw : FnA K mg "_law_draw" sDraw ["_law_pen_here", "_law_many"]
  pick : FnA K mg "_law_pick" sPick ["_law_pen_here", "_law_some"]
  lot : FnA K mg "_law_lot" sLot ["_law_pen_here", "_law_width"]
  sum : FnA K mg "sum_of" sSum ["lots"]
  sumk : KBn K sum.fd ["lots"] 0 ["lots"] (fun _ ws => ws) (fun _ zs => zs)
  ask : FnA K mg "_law_asked_right" sAsk ["_law_lots", "_law_lot_here"]
  long : FnA K mg "_law_long_right" sLong ["_law_pen_here"]
abbrev sLaw : Stmt := topS 18
abbrev nLaw : List Str := ["_law_script", "_law_pen_here", "_law_turn", "_law_width", "_law_far", "_law_lots", "_law_lot_here", "_law_some", "_law_wide", "_law_at", "_law_one", "_law_mark"]
theorem scLaw : FnScope nLaw ["_law_script"] (defScope sLaw) := ⟨rfl, rfl, rfl, by decide +kernel, rfl, by decide +kernel, by decide +kernel⟩
def spLaw (K : PySem.W.Frag) : Sp := fun vs H Q _ => ∃ (a : Addr) (ns : List Int), vs = [.ref a] ∧ SqL K H a (ns.map V.int) ∧ ns.length ≤ 63 ∧ ∀ H2, Q (.bl true) H2
abbrev tCoin (K : PySem.W.Frag) : TT := tTest (tOp rEq (tCall spDraw [] E0 (tCons (tVar 1) (tCons (tC (.int 2)) tNil))) (tC (.int 0)))
abbrev tWide (K : PySem.W.Frag) (j : Nat) : TE := tThen (tLc (iSeq K (tVar j)) (gName 11) tYes (tOp (rI0 fun i j => .int (i + j)) (tVar 11) (tVar 4)) [11]) (kTup K)
end
/-! ### what stays while the pen moves -/
theorem ob_p {p l : Addr} {ns : List Int} {n : Int} {H H' : Hp} (e : ExP p H H') (hp : Pen H p l ns n) {xs : List V} {ls : List (List Int)} (h : Paired (Ob isT H) xs ls) : Paired (Ob isT H') xs ls := L2.Paired.mapP h fun v c ⟨a, o, x1, x2, x3⟩ => by
  refine ⟨a, o, x1, e a o (fun z => ?_) x2, x3⟩
  obtain ⟨t, r, h1, _⟩ := hp.at_
  rw [z, h1] at x2
  cases x2
  cases x3
theorem ob_u {D : Addr} {acc : List V} {o2 : HO} {H : Hp} (hD : H D = some (.lst acc)) {xs : List V} {ls : List (List Int)} (h : Paired (Ob isT H) xs ls) : Paired (Ob isT (upd H D o2)) xs ls := L2.Paired.mapP h fun v c ⟨a, o, x1, x2, x3⟩ => by
  refine ⟨a, o, x1, ?_, x3⟩
  rw [upd_ne fun z => ?_]
  · exact x2
  · rw [z, hD] at x2
    cases x2
    cases x3
theorem ot_up {H H' : Hp} (e : Ex H H') {us : List V} {cs : List (List Int)} (h : Paired (Ob isT H) us cs) : Paired (Ob isT H') us cs := L2.Paired.mapP h fun _ _ r => r.up e
theorem lots_T {K : PySem.W.Frag} {H : Hp} {xs : List V} {ls : List (List Int)} (h : Paired (Ob isT H) xs ls) : LotsP K H xs ls := L2.Paired.mapP h fun v c ⟨a, o, x1, x2, x3⟩ => ⟨a, x1, .inr (st_of (by rw [x2, x3]))⟩
theorem lots_L {K : PySem.W.Frag} {H : Hp} {xs : List V} {ls : List (List Int)} (h : Paired (Ob isL H) xs ls) : LotsP K H xs ls := L2.Paired.mapP h fun v c ⟨a, o, x1, x2, x3⟩ => ⟨a, x1, .inl (sq_of (by rw [x2, x3]))⟩
theorem pen_u {D p l : Addr} {ns : List Int} {n : Int} {o : HO} {H : Hp} (h1 : D ≠ p) (h2 : D ≠ l) (h : Pen H p l ns n) : Pen (upd H D o) p l ns n := by
  obtain ⟨t, r, a, b, c⟩ := h.at_
  exact ⟨⟨t, r, by rw [upd_ne h1.symm]; exact a, b, c⟩, by rw [upd_ne h2.symm]; exact h.ls, h.ne, h.few⟩
theorem pen_l {D p l : Addr} {ns : List Int} {n : Int} {H : Hp} (h : Pen H p l ns n) (hD : H D = none) : D ≠ l := fun z => by
  have := h.ls
  rw [← z, hD] at this
  cases this
/-! ### sums turned about, doubled -/
theorem cnt_rev (x : Int) (ss : List (List Int)) : ss.reverse.flatten.count x = ss.flatten.count x := by
  induction ss with
  | nil => rfl
  | cons l ss ih =>
    rw [List.reverse_cons, List.flatten_append, List.count_append, ih, List.flatten_cons, List.count_append]
    simp
    omega
theorem sum2_rev (ss : List (List Int)) : sum2 ss.reverse = sum2 ss := asc_ext (sum2_pw _) (sum2_pw _) fun x => by rw [mem_sum2, mem_sum2, cnt_rev]
theorem sum2_dbl (ss : List (List Int)) : sum2 (ss ++ ss) = [] := List.eq_nil_iff_forall_not_mem.mpr fun x hx => by
  rw [mem_sum2, List.flatten_append, List.count_append] at hx
  omega
theorem rev_paired {α β : Type} {F : α → β → Prop} : ∀ {xs : List α} {ys : List β}, Paired F xs ys → Paired F xs.reverse ys.reverse
  | _, _, .nil => .nil
  | _, _, .cons r t => by
    rw [List.reverse_cons, List.reverse_cons]
    exact paired_snoc (rev_paired t) r
theorem sum2_lot {ss : List (List Int)} {m : Int} (h : ∀ l ∈ ss, Lot l m) : Lot (sum2 ss) m := ⟨sum2_pw _, fun x hx => by
  rw [mem_sum2] at hx
  have hm : x ∈ ss.flatten := List.one_le_count_iff.mp (by omega)
  obtain ⟨l, hl, hxl⟩ := List.mem_flatten.mp hm
  exact (h l hl).low x hxl⟩
/-! ### marks moved -/
def wd (far : Int) (l : List Int) : List Int := l.map (· + far)
theorem wd_lot {far : Int} {l : List Int} {m : Nat} (h : Lot l (m : Int)) (hm : m ≤ 6) : (wd far l).length ≤ 6 ∧ (wd far l).Pairwise (· < ·) := by
  have := h.len
  refine ⟨by unfold wd; rw [List.length_map]; omega, List.pairwise_map.mpr (h.asc.imp fun z => ?_)⟩
  show _ + far < _ + far
  omega
theorem wd_small {far : Int} {ls : List (List Int)} {lot : List Int} {m : Nat} (hl : ls.length ≤ 6) (h : ∀ l ∈ ls, Lot l (m : Int)) (h2 : Lot lot (m : Int)) (hm : m ≤ 6) : Small (ls.map (wd far)) (wd far lot) := ⟨by rw [List.length_map]; exact hl, fun l hx => by
  obtain ⟨k, hk, rfl⟩ := List.mem_map.mp hx
  exact wd_lot (h k hk) hm, wd_lot h2 hm⟩
section
variable {K : PySem.W.Frag} {σ : L2.St} {H : Hp}
theorem ef_wide {j : Nat} {b : Addr} {l : List Int} {far : Int} (hj : σ[j]? = some (some (.ref b))) (h4 : (wipe σ [11])[4]? = some (some (.int far))) (hn : 11 < σ.length) (hw : ∀ x, wipe ((wipe σ [11]).set 11 (some x)) [11] = wipe σ [11]) (hb : Sq K H b (l.map V.int)) (hl : l.length ≤ 1000) :
    EvF isT (tWide K j) σ H (wd far l) := by
  have comp := el_lcSq (K := K) (σ := σ) (H := H) (tl := tVar j) (te := tOp (rI0 fun i j => .int (i + j)) (tVar 11) (tVar 4)) (t := tYes) (j := 11) (vs := [11]) (fun _ => true) (fun i => .int (l.getD i 0 + far)) (ev_var hj) hb (by rw [List.length_map]; omega) hw (fun _ _ _ _ _ => et_yes)
    (fun i x H1 e1 hx _ => by
      obtain ⟨n, hn2, rfl⟩ := int_at hx
      rw [getD_at hn2]
      exact ev_op (ev_var (by rw [List.getElem?_set_self (by rw [wipe_length]; exact hn)])) (ev_var (by rw [List.getElem?_set_ne (by decide)]; exact h4)) rv_I0)
  have e := given_of (0 : Int) l (n := (l.map V.int).length) (by rw [List.length_map]) (fun _ => true) (fun x => V.int (x + far))
  rw [List.filter_eq_self.mpr (fun _ _ => rfl)] at e
  rw [e] at comp
  intro H1 e1 Q q
  refine th_op (comp H1 e1 _ fun p H2 hp e2 h2 => .inl ⟨p, _, rfl, sq_of h2, fun r hr => q r _ _ (fresh_back e2 hr) (e2.trans (Ex.new hr)) upd_same ?_⟩)
  show HO.tup (l.map fun x => V.int (x + far)) = HO.tup ((wd far l).map V.int)
  unfold wd
  rw [List.map_map]
  rfl
end
end KS
namespace KS
open PySem PySem.Spec PyProof.Rows L2 KR KM Evl StX
section
variable {P : Program} {w : World} {K : PySem.W.Frag} {mg : Str → Option Value} {base : Heap}
theorem nx_op2 {f b c : L2.St → Hp → Prop} {r : VK} {σ : L2.St} {H : Hp} (h : f σ H) : ({ nx := f, rt := r, bk := b, ct := c } : Ends).nx σ H := h
theorem tt_op {te : TE} {σ : L2.St} {H : Hp} {Q : Bool → Hp → Prop} (h : te σ H fun x H1 => ∃ k, x = .bl k ∧ Q k H1) : tTest te σ H Q := h
theorem or_op {t u : TT} {σ : L2.St} {H : Hp} {Q : Bool → Hp → Prop} (h : t σ H fun c H1 => if c = true then Q true H1 else u σ H1 Q) : tOr t u σ H Q := h
/-- over a list: each item a new object -/
theorem eo_lcL {σ : L2.St} {H : Hp} {β : Type} {G : HO → β → Prop} {a : Addr} {xs : List V} {tl te : TE} {j : Nat} {vs : List Nat} (ys : List β) (hl : xs.length = ys.length) (h : Ev tl σ H (.ref a)) (hx : SqL K H a xs) (hz : ys.length ≤ 40000) (hw : ∀ x, wipe ((wipe σ vs).set j (some x)) vs = wipe σ vs)
    (he : ∀ (i : Nat) (x : V) (y : β) H1, Ex H H1 → xs[i]? = some x → ys[i]? = some y → EvF G te ((wipe σ vs).set j (some x)) H1 y) : EvO' G (tLc (iList K tl) (gName j) tYes te vs) σ H ys := fun H0 e Q q => h H0 e _ fun H1 e1 => ⟨a, rfl, ⟨xs, ex_l (e.trans e1) hx⟩, fun D hD => by
  refine lc_it walk_list (Co G H1 ys D) (Co.start hD) (fun i H' _ p => ex_l ((e.trans e1).trans p.2.1) hx) (fun i x H' H'' hi p hy => ?_) (fun H' p => ?_)
  · obtain ⟨rfl, hi2⟩ := hy
    have hi3 : i < ys.length := by omega
    exact ⟨hw x, co_turn (List.getElem?_eq_getElem hi3) (by omega) p (he i x _ _ (e.trans e1) hi2 (List.getElem?_eq_getElem hi3))⟩
  · rw [hl] at p
    obtain ⟨p2, vs', p3, p4⟩ := p.end_
    exact q D vs' H' (fresh_back e1 hD) (e1.trans p2) p3 p4⟩
theorem ok_law {f : Addr} {fd : FuncData} {k : Nat} (F : Fun K "law" "law" sLaw f fd) (B : Bu mg) (A_ : LawA K mg) : FnOk P w K mg base CX0 (k + 5) f fd ["_law_script"] (spLaw K) := by
  have GP : FnOk P w K mg base CX0 (k + 1) A_.pen.f A_.pen.fd ["_law_script"] (spPen K) := ok_pen A_.pen.F B
  have GD : FnOk P w K mg base CX0 (k + 1) A_.draw.f A_.draw.fd ["_law_pen_here", "_law_many"] spDraw := ok_draw A_.draw.F B
  have GK : FnOk P w K mg base CX0 (k + 2) A_.pick.f A_.pick.fd ["_law_pen_here", "_law_some"] (spPick K) := ok_pick A_.pick.F B A_.draw
  have GT : FnOk P w K mg base CX0 (k + 2) A_.lot.f A_.lot.fd ["_law_pen_here", "_law_width"] (spLot K) := ok_lot A_.lot.F B A_.draw
  have GS : FnOk P w K mg base CX0 (k + 1) A_.sum.f A_.sum.fd ["lots"] (spSum K) := ok_sum A_.sum.F B
  have GL : FnOk P w K mg base CX0 (k + 1) A_.as.ls.f A_.as.ls.fd ["_law_lots"] (spLS K) := ok_ls A_.as.ls.F B
  have GA : FnOk P w K mg base CX0 (k + 4) A_.ask.f A_.ask.fd ["_law_lots", "_law_lot_here"] (spAsk K) := ok_ask A_.ask.F B A_.as
  have GG : FnOk P w K mg base CX0 (k + 4) A_.long.f A_.long.fd ["_law_pen_here"] spLong := ok_long A_.long.F B A_.as A_.draw
  refine F.ok scLaw (fun vs H Q E h => ?_) (fun cdv A outer s H vs Q E hr h => ?_)
  · obtain ⟨a, ns, rfl, _⟩ := h
    rfl
  · obtain ⟨a, ns, rfl, hS, hz, q⟩ := h
    have hu := hu_of hr
    have hu64 := hr.units
    have hr1 : Room (k + 1) _ := hr.mono (by omega)
    have hr2 : Room (k + 2) _ := hr.mono (by omega)
    refine ⟨_, pss_cons (ps_set (i := 1) scLaw.nd rfl (Or.inr rfl) (pe_call GP hr1 (by rfl) A_.pen.g A_.pen.F.kp A_.pen.b .nil pass0 (pa_cons (pv 0) pa_nil)))
      (pss_cons (ps_for PassesOwn.never rfl (pi_range1 rfl B.range (pa_cons pe_int pa_nil)) (pg_name (i := 2) scLaw.nd rfl (.inl rfl))
        (pss_cons (ps_asg (pe_tup (pa_cons (pe_op op_add pe_int (pe_call GD hr1 (by rfl) A_.draw.g A_.draw.F.kp A_.draw.b .nil pass0 (pa_cons (pv 1) (pa_cons pe_int pa_nil))))
            (pa_cons (pe_call GK hr2 (by rfl) A_.pick.g A_.pick.F.kp A_.pick.b .nil pass0 (pa_cons (pv 1) (pa_cons (pe_lst (pa_cons pe_int (pa_cons pe_int (pa_cons pe_int (pa_cons (pe_op op_pow pe_int pe_int) pa_nil))))) pa_nil))) pa_nil)))
            (pg_tup rfl (pgs_cons (pg_name (i := 3) scLaw.nd rfl (.inr rfl)) (pgs_cons (pg_name (i := 4) scLaw.nd rfl (.inr rfl)) pgs_nil))))
        (pss_cons (ps_setLc (i := 5) (own := [("_law_at", 9)]) (g := gName 9) (te := tCall (spLot K) [] E0 (tCons (tVar 1) (tCons (tVar 3) tNil))) rfl scLaw.nd rfl rfl rfl
            (pi_range1 rfl B.range (pa_cons (pe_call GD hr1 (by rfl) A_.draw.g A_.draw.F.kp A_.draw.b .nil pass0 (pa_cons (pv 1) (pa_cons pe_int pa_nil))) pa_nil)) (blkOk_by (N := nLaw) (sc := defScope sLaw) (by decide +kernel))
            (fun _ _ _ _ _ => pg_name (i := 9) scLaw.nd rfl (Or.inl rfl)) (fun _ _ _ _ _ => pts_nil) (fun _ _ _ _ _ => pe_call GT hr2 (by rfl) A_.lot.g A_.lot.F.kp A_.lot.b .nil pass0 (pa_cons (pv 1) (pa_cons (pv 3) pa_nil))))
        (pss_cons (ps_setLc (i := 7) (own := [("_law_lot_here", 6)]) (g := gName 6) (tt := tCoin K) rfl scLaw.nd rfl rfl rfl (pi_list (pv 5)) (blkOk_by (N := nLaw) (sc := defScope sLaw) (by decide +kernel))
            (fun _ _ _ _ _ => pg_name (i := 6) scLaw.nd rfl (Or.inl rfl)) (fun _ _ _ _ _ => pts_one (pt_cmpR op_eq (pe_call GD hr1 (by rfl) A_.draw.g A_.draw.F.kp A_.draw.b .nil pass0 (pa_cons (pv 1) (pa_cons pe_int pa_nil))) pe_int (nomark _))) (fun _ _ _ _ _ => pv 6))
        (pss_cons (ps_if (PW.pt (pw_or (pt_cmpR (op_neD hu64) (pe_callN0 GS hr1 rfl A_.sum.g A_.sum.F.kp A_.sumk pass0 (pk_cons (pv 7) pk_nil)) (pe_call GL hr1 (by rfl) A_.as.ls.g A_.as.ls.F.kp A_.as.ls.b .nil pass0 (pa_cons (pv 7) pa_nil)) (nomark _))
            (pw_or (pt_cmpR (op_neD hu64) (pe_call GS hr1 (by rfl) A_.sum.g A_.sum.F.kp A_.sum.b .nil pass0 (pa_cons (pe_lc (own := [("_law_lot_here", 6)]) (g := gName 6) (te := tCB (rListS K) (tCons (tVar 6) tNil)) rfl scLaw.nd (pi_list (pe_revL (pv 7))) (blkOk_by (N := nLaw) (sc := defScope sLaw) (by decide +kernel))
                (fun _ _ _ _ _ => pg_name (i := 6) scLaw.nd rfl (Or.inl rfl)) (fun _ _ _ _ _ => pts_nil) (fun _ _ _ _ _ => pe_callTy call_list_of rfl B.list boot_list (pa_cons (pv 6) pa_nil))) pa_nil)) (pe_call GL hr1 (by rfl) A_.as.ls.g A_.as.ls.F.kp A_.as.ls.b .nil pass0 (pa_cons (pv 7) pa_nil)) (nomark _))
            (pw_or1 (pt_cmpR (op_neD hu64) (pe_call GS hr1 (by rfl) A_.sum.g A_.sum.F.kp A_.sum.b .nil pass0 (pa_cons (pe_op op_cat (pv 7) (pv 7)) pa_nil)) (pe_tup pa_nil) (nomark _)))))) (pss_one (ps_ret pe_bl)) pss_nil)
        (pss_one (ps_for PassesOwn.never rfl (pi_tup (pe_tup (pa_cons (pe_call GL hr1 (by rfl) A_.as.ls.g A_.as.ls.F.kp A_.as.ls.b .nil pass0 (pa_cons (pv 7) pa_nil)) (pa_cons (pe_call GT hr2 (by rfl) A_.lot.g A_.lot.F.kp A_.lot.b .nil pass0 (pa_cons (pv 1) (pa_cons (pv 3) pa_nil))) (pa_cons (pe_tup pa_nil) pa_nil))))) (pg_name (i := 6) scLaw.nd rfl (.inl rfl))
          (pss_cons (ps_setLc (i := 8) (own := [("_law_one", 10)]) (g := gName 10) (te := tWide K 10) rfl scLaw.nd rfl rfl rfl (pi_list (pv 5)) (blkOk_by (N := nLaw) (sc := defScope sLaw) (by decide +kernel))
              (fun _ _ _ _ _ => pg_name (i := 10) scLaw.nd rfl (Or.inl rfl)) (fun _ _ _ _ _ => pts_nil) (fun _ _ _ _ _ => pe_tupleOf rfl B.tuple (pe_lc (own := [("_law_mark", 11)]) (g := gName 11) (te := tOp (rI0 fun i j => .int (i + j)) (tVar 11) (tVar 4)) rfl scLaw.nd (pi_seq (pv 10)) (blkOk_by (N := nLaw) (sc := relS _ (defScope sLaw)) (by decide +kernel))
                (fun _ _ _ _ _ => pg_name (i := 11) scLaw.nd rfl (Or.inl rfl)) (fun _ _ _ _ _ => pts_nil) (fun _ _ _ _ _ => pe_op op_add (pv 11) (pv 4)))))
          (pss_one (ps_if (pt_not (pt_truth (pe_call GA hr (by rfl) A_.ask.g A_.ask.F.kp A_.ask.b .nil pass0 (pa_cons (pv 8) (pa_cons
              (pe_tupleOf rfl B.tuple (pe_lc (own := [("_law_mark", 11)]) (g := gName 11) (te := tOp (rI0 fun i j => .int (i + j)) (tVar 11) (tVar 4)) rfl scLaw.nd (pi_seq (pv 6)) (blkOk_by (N := nLaw) (sc := defScope sLaw) (by decide +kernel))
                (fun _ _ _ _ _ => pg_name (i := 11) scLaw.nd rfl (Or.inl rfl)) (fun _ _ _ _ _ => pts_nil) (fun _ _ _ _ _ => pe_op op_add (pv 11) (pv 4)))) pa_nil))) (by intro _; rfl))) (pss_one (ps_ret pe_bl)) pss_nil))))))))))
      (pss_cons (ps_if (pt_not (pt_truth (pe_call GG hr (by rfl) A_.long.g A_.long.F.kp A_.long.b .nil pass0 (pa_cons (pv 1) pa_nil)) (by intro _; rfl))) (pss_one (ps_ret pe_bl)) pss_nil)
      (pss_one (ps_ret (pe_and (pe_cmpR (op_eqD hu64) (pe_call GS hr1 (by rfl) A_.sum.g A_.sum.F.kp A_.sum.b .nil pass0 (pa_cons (pe_lst pa_nil) pa_nil)) (pe_tup pa_nil) (nomark _))
          (pe_and (pe_call GA hr (by rfl) A_.ask.g A_.ask.F.kp A_.ask.b .nil pass0 (pa_cons (pe_lst pa_nil) (pa_cons (pe_tup pa_nil) pa_nil)))
          (pe_and (pe_call GA hr (by rfl) A_.ask.g A_.ask.F.kp A_.ask.b .nil pass0 (pa_cons (pe_lst pa_nil) (pa_cons (pe_tup (pa_cons pe_int pa_nil)) pa_nil)))
          (pe_one (pe_call GA hr (by rfl) A_.ask.g A_.ask.F.kp A_.ask.b .nil pass0 (pa_cons (pe_lst (pa_cons (pe_tup pa_nil) pa_nil)) (pa_cons (pe_tup (pa_cons pe_int (pa_cons pe_int pa_nil))) pa_nil))))))))))), ?_⟩
    refine q_as (c_op ⟨.ref a, rfl, a, ns, rfl, hS, hz, fun p l ms H1 hpn e1 hp0 => ?_⟩)
    refine ⟨(4 : Int), rfl, by decide, by decide, ?_⟩
    refine for_it walk_range (fun i σ' H' => ∃ y2 y3 y4 y5 y6 y7 y8, σ' = [some (.ref a), some (.ref p), y2, y3, y4, y5, y6, y7, y8, none, none, none] ∧ Pen H' p l ms (200 * (i : Int)))
      ⟨_, _, _, _, _, _, _, rfl, hp0.more (by omega)⟩ (fun _ _ _ _ _ => trivial) ?_ ?_
    · rintro i x σ' H2 H2' hi ⟨y2, y3, y4, y5, y6, y7, y8, rfl, hp⟩ ⟨rfl, rfl⟩
      have hi4 : i < 4 := hi
      -- width, far
      refine q_as (t_op (a_op (op_op (c_op ⟨.ref p, rfl, p, l, ms, 200 * (i : Int), 6, rfl, hp, by omega, by decide, by decide, fun v H3 v0 v1 e3 hp3 => ⟨1, v, rfl, rfl, ?_⟩⟩))))
      refine ⟨.ref p, rfl, 10, 20, rfl, rfl, ⟨by decide, by decide, by decide⟩, sz_of (by simp), fun A0 hA0 => ?_⟩
      have hA1 := Ex.new (o := HO.lst [V.int 0, .int 0, .int 7, .int ((10 : Int) ^ (20 : Int).toNat)]) hA0
      refine ⟨p, A0, l, ms, 200 * (i : Int) + 1, [V.int 0, .int 0, .int 7, .int ((10 : Int) ^ (20 : Int).toNat)], rfl, hp3.up hA1, by omega, sq_of upd_same, hp3.some hA0, by simp, by simp, fun x H4 hx e4 hp4 => ?_⟩
      obtain ⟨far, rfl⟩ : ∃ far : Int, x = .int far := by
        rcases List.mem_cons.mp hx with z | hx
        · exact ⟨_, z⟩
        rcases List.mem_cons.mp hx with z | hx
        · exact ⟨_, z⟩
        rcases List.mem_cons.mp hx with z | hx
        · exact ⟨_, z⟩
        rcases List.mem_cons.mp hx with z | hx
        · exact ⟨_, z⟩
        cases hx
      refine ⟨sz_of (by simp), fun T hT => ⟨T, _, rfl, st_of upd_same, rfl, .int (1 + v), _, rfl, .int far, _, rfl, rfl, ?_⟩⟩
      have hp5 : Pen (upd H4 T (.tup [.int (1 + v), .int far])) p l ms (200 * (i : Int) + 2) := (hp4.up (Ex.new hT)).more (by omega)
      generalize upd H4 T (.tup [.int (1 + v), .int far]) = H5 at hp5
      clear hp4 e4 hp3 e3 hT hA1 hA0 hx
      obtain ⟨m, hm⟩ : ∃ m : Nat, 1 + v = (m : Int) := ⟨(1 + v).toNat, by omega⟩
      have hm6 : m ≤ 6 := by omega
      rw [hm]
      -- the lots
      refine q_as ?_
      refine ⟨.ref p, rfl, p, l, ms, 200 * (i : Int) + 2, 7, rfl, hp5, by omega, by decide, by decide, fun r H6 r0 r1 e6 hp6 => ⟨r, rfl, by omega, by omega, fun D hD => ?_⟩⟩
      have hDp := hp6.some hD
      have hDl := pen_l hp6 hD
      obtain ⟨c, hc⟩ : ∃ c : Nat, r = (c : Int) := ⟨r.toNat, by omega⟩
      have hcr : r.toNat = c := by omega
      rw [hcr]
      refine lc_it walk_range (fun k H' => ∃ vs ls, H' D = some (.lst vs) ∧ Paired (Ob isT H') vs ls ∧ ls.length = k ∧ (∀ l ∈ ls, Lot l (m : Int)) ∧ Pen H' p l ms (200 * (i : Int) + 3 + 6 * (k : Int)))
        ⟨[], [], upd_same, .nil, rfl, (fun _ h => by cases h), (pen_u hDp hDl hp6).more (by omega)⟩ (fun _ _ _ _ => trivial) ?_ ?_
      · rintro k x H7 H8 hk ⟨vs, ls, h1, h2, h3, h4, hp7⟩ ⟨rfl, rfl⟩
        refine ⟨rfl, ?_⟩
        refine ⟨.ref p, rfl, .int (m : Int), rfl, p, l, ms, _, m, rfl, hp7, by omega, by omega, fun a' lot H9 ha' hlot e9 hp9 h9 => ?_⟩
        have hDa : a' ≠ D := fun z => by rw [z, h1] at ha'; cases ha'
        refine ⟨vs, e9 D _ hDp h1, sz_lt (by have := Paired.length h2; omega), vs ++ [.ref a'], ls ++ [lot], upd_same, paired_snoc (ob_u (e9 D _ hDp h1) (ob_p e9 hp7 h2)) ⟨a', _, rfl, by rw [upd_ne hDa]; exact h9, rfl⟩, by rw [List.length_append, List.length_singleton, h3], fun l hl => ?_, (pen_u hDp hDl hp9).more (by omega)⟩
        rcases List.mem_append.mp hl with h | h
        · exact h4 l h
        · rw [List.mem_singleton.mp h]
          exact hlot
      · rintro H7 ⟨xs, ls, hA, hLs, hlen, hlot, hp7⟩
        have hl6 : ls.length ≤ 6 := by omega
        have hp7 : Pen H7 p l ms (200 * (i : Int) + 50) := hp7.more (by omega)
        have hxl : xs.length = ls.length := Paired.length hLs
        -- some of them
        refine q_as ?_
        refine ⟨.ref D, rfl, D, rfl, ⟨xs, sq_of hA⟩, fun D2 hD2 => ?_⟩
        have hD2p := hp7.some hD2
        have hD2l := pen_l hp7 hD2
        have hDD : D ≠ D2 := fun z => by rw [← z, hA] at hD2; cases hD2
        refine lc_it walk_list (fun k H' => ∃ us ss, H' D2 = some (.lst us) ∧ Paired (Ob isT H') us ss ∧ (∀ l ∈ ss, Lot l (m : Int)) ∧ ss.length ≤ k ∧ H' D = some (.lst xs) ∧ Paired (Ob isT H') xs ls ∧ Pen H' p l ms (200 * (i : Int) + 50 + (k : Int)))
          ⟨[], [], upd_same, .nil, (fun _ h => by cases h), Nat.le_refl 0, by rw [upd_ne hDD]; exact hA, ot_up (Ex.new hD2) hLs, (pen_u hD2p hD2l hp7).more (by omega)⟩ (fun k H' _ ⟨us, ss, _, _, _, _, h, _⟩ => sq_of h) ?_ ?_
        · rintro k x H8 H8' hk ⟨us, ss, h1, h2, h3, h4, h5, h6, hp8⟩ ⟨rfl, hx⟩
          obtain ⟨lt, hlt, hOb⟩ := pget h6 hx
          have hlt2 := hlot lt (List.mem_of_getElem? hlt)
          refine ⟨rfl, ?_⟩
          refine ⟨.ref p, rfl, p, l, ms, _, 2, rfl, hp8, by omega, by decide, by decide, fun v2 H9 w0 w1 e9 hp9 => ⟨rfl, _, rfl, ite2 (fun hz0 => ?_) (fun hz0 => ?_)⟩⟩
          · have hD9 := e9 D2 _ hD2p h1
            refine ⟨x, rfl, us, hD9, sz_lt (by have := Paired.length h2; omega), us ++ [x], ss ++ [lt], upd_same, ob_u hD9 (paired_snoc (ob_p e9 hp8 h2) ?_), fun l hl => ?_, by rw [List.length_append, List.length_singleton]; omega, by rw [upd_ne hDD]; exact e9 D _ hDp h5, ob_u hD9 (ob_p e9 hp8 h6), (pen_u hD2p hD2l hp9).more (by omega)⟩
            · have := ob_p e9 hp8 (Paired.cons hOb .nil)
              cases this with
              | cons r _ => exact r
            · rcases List.mem_append.mp hl with h | h
              · exact h3 l h
              · rw [List.mem_singleton.mp h]
                exact hlt2
          · exact ⟨us, ss, e9 D2 _ hD2p h1, ob_p e9 hp8 h2, h3, by omega, e9 D _ hDp h5, ob_p e9 hp8 h6, hp9.more (by omega)⟩
        · rintro H8 ⟨us, ss, hB, hSs, hsl, hsn, hA, hLs, hp8⟩
          have hp8 : Pen H8 p l ms (200 * (i : Int) + 100) := hp8.more (by omega)
          have hs6 : ss.length ≤ 6 := by omega
          have hul : us.length = ss.length := Paired.length hSs
          have hfl : ss.flatten.length ≤ 5000 := by
            have := flat_len (m := 6) fun l hl => by have := (hsl l hl).len; omega
            omega
          have hnd : ∀ l ∈ ss, l.Nodup := fun l hl => lt_nd (hsl l hl).asc
          -- sum_of three times
          refine q_if0 ⟨.ref D2, rfl, rfl, rfl, .ref D2, ss, rfl, ⟨D2, us, rfl, .inl (sq_of hB), lots_T hSs⟩, hfl, fun t1 H9 ht1 e9 h9 => ?_⟩
          refine ⟨.ref D2, rfl, .ref D2, ss, rfl, ⟨D2, us, rfl, .inl (sq_of (e9 D2 _ hB)), lots_T (ot_up e9 hSs)⟩, hfl, by omega, hnd, fun t2 H10 ht2 e10 h10 => ?_⟩
          refine ⟨.tuple (intsD (sum2 ss)), .tuple (intsD (sum2 ss)), .tup (st_of (e10 t1 _ h9)) (dp_ints _), .tup (st_of h10) (dp_ints _), sh_tup _, sh_tup _, _, rfl, ?_⟩
          rw [eqv_tup, decide_eq_true rfl]
          refine iteF ?_
          have g10 := e9.trans e10
          refine or_op (tt_op (op_op (c_op (a_op (lc_op ⟨.ref D2, rfl, D2, us, rfl, sq_of (g10 D2 _ hB), fun R hR => ?_⟩)))))
          have e11 : Ex H10 (upd H10 R (.lst us.reverse)) := Ex.new hR
          have hRv : (upd H10 R (.lst us.reverse)) R = some (.lst us.reverse) := upd_same
          generalize upd H10 R (.lst us.reverse) = H11 at e11 hRv
          have g11 := g10.trans e11
          have hRS : Paired (Ob isT H11) us.reverse ss.reverse := rev_paired (ot_up g11 hSs)
          refine eo_lcL (K := K) (G := isL) (σ := [some (.ref a), some (.ref p), some (.int (0 + (i : Int))), some (.int (m : Int)), some (.int far), some (.ref D), y6, some (.ref D2), y8, none, none, none]) (H := H11) (a := R) (xs := us.reverse) (tl := tC (.ref R)) (te := tCB (rListS K) (tCons (tVar 6) tNil)) (j := 6) (vs := [6])
            ss.reverse (Paired.length hRS) ev_c (sq_of hRv) (by rw [List.length_reverse]; omega) (fun _ => rfl) (fun j x y H12 e12 hx hy => by
              obtain ⟨lt, hlt, b', o', rfl, hb', rfl⟩ := pget hRS hx
              rw [hlt] at hy
              cases hy
              exact fun H13 e13 Q13 q13 => ⟨.ref b', rfl, b', _, rfl, .inr (st_of (e13 b' _ (e12 b' _ hb'))), fun l3 hl3 => q13 l3 _ _ hl3 (Ex.new hl3) upd_same rfl⟩) H11 (Ex.refl H11) _ fun p2 us2 H12 hp2 e12 h12 hP12 => ?_
          have g12 := g11.trans e12
          refine ⟨.ref p2, ss.reverse, rfl, ⟨p2, us2, rfl, .inl (sq_of h12), lots_L hP12⟩, by rw [(List.reverse_perm ss).flatten.length_eq]; exact hfl, fun t3 H13 ht3 e13 h13 => ?_⟩
          rw [sum2_rev] at h13
          have g13 := g12.trans e13
          refine ⟨.ref D2, rfl, .ref D2, ss, rfl, ⟨D2, us, rfl, .inl (sq_of (g13 D2 _ hB)), lots_T (ot_up g13 hSs)⟩, hfl, by omega, hnd, fun t4 H14 ht4 e14 h14 => ?_⟩
          refine ⟨.tuple (intsD (sum2 ss)), .tuple (intsD (sum2 ss)), .tup (st_of (e14 t3 _ h13)) (dp_ints _), .tup (st_of h14) (dp_ints _), sh_tup _, sh_tup _, _, rfl, ?_⟩
          rw [eqv_tup, decide_eq_true rfl]
          refine iteF ?_
          have g14 := g13.trans e14
          refine ⟨.ref D2, rfl, .ref D2, rfl, D2, D2, us, us, rfl, rfl, g14 D2 _ hB, g14 D2 _ hB, sz_of (by omega), fun R2 hR2 => ?_⟩
          have e15 : Ex H14 (upd H14 R2 (.lst (us ++ us))) := Ex.new hR2
          refine ⟨.ref R2, ss ++ ss, rfl, ⟨R2, us ++ us, rfl, .inl (sq_of upd_same), paired_append (lots_T (ot_up (g14.trans e15) hSs)) (lots_T (ot_up (g14.trans e15) hSs))⟩, by
            have := flat_len (m := 6) fun l hl => by have := (hsl l hl).len; omega
            rw [List.flatten_append, List.length_append]
            omega, fun t5 H16 ht5 e16 h16 => ⟨sz_of (by simp), fun t6 ht6 => ?_⟩⟩
          rw [sum2_dbl] at h16
          have e17 : Ex H16 (upd H16 t6 (.tup [])) := Ex.new ht6
          refine ⟨.tuple (intsD []), .tuple (intsD []), .tup (st_of (e17 t5 _ h16)) .nil, .tup (st_of upd_same) .nil, sh_tup [], sh_tup [], _, rfl, ?_⟩
          rw [eqv_tup, decide_eq_true rfl]
          refine iteF ?_
          have g17 := ((g14.trans e15).trans e16).trans e17
          generalize upd H16 t6 (.tup []) = H17 at g17
          clear e17 h16 e16 h14 e14 h13 e13 h12 hP12 e12 hRS hRv e11 h10 e10 h9 e9 g10 g11 g12 g13 g14 e15
          refine nx_op ?_
          have hpq := hp8.up g17
          refine ⟨.ref D2, rfl, .ref D2, ss, rfl, ⟨D2, us, rfl, .inl (sq_of (g17 D2 _ hB)), lots_T (ot_up g17 hSs)⟩, hfl, by omega, hnd, fun t1 H18 ht1 e18 h18 => ?_⟩
          have g18 := g17.trans e18
          have hp18 := hpq.up e18
          refine ⟨.ref p, rfl, .int (m : Int), rfl, p, l, ms, _, m, rfl, hp18, by omega, by omega, fun t2 lot2 H19 ht2 hlot2 e19 hp19 h19 => ?_⟩
          have k1 : Paired (Ob isT H19) [V.ref t1] [sum2 ss] := ob_p e19 hp18 (.cons ⟨t1, _, rfl, h18, rfl⟩ .nil)
          refine ⟨sz_of (by simp), fun t3 ht3 => ⟨sz_of (by simp), fun T hT => ⟨T, rfl, ⟨_, st_of upd_same⟩, ?_⟩⟩⟩
          have e20 : Ex H19 (upd (upd H19 t3 (.tup [])) T (.tup [.ref t1, .ref t2, .ref t3])) := (Ex.new ht3).trans (Ex.new hT)
          have hT3 : Paired (Ob isT (upd (upd H19 t3 (.tup [])) T (.tup [.ref t1, .ref t2, .ref t3]))) [V.ref t1, .ref t2, .ref t3] [sum2 ss, lot2, []] := by
            have k2 := ot_up e20 k1
            cases k2 with
            | cons r _ => exact .cons r (.cons ⟨t2, _, rfl, e20 t2 _ h19, rfl⟩ (.cons ⟨t3, _, rfl, Ex.new hT t3 _ upd_same, rfl⟩ .nil))
          have hTT : (upd (upd H19 t3 (.tup [])) T (.tup [.ref t1, .ref t2, .ref t3])) T = some (.tup [.ref t1, .ref t2, .ref t3]) := upd_same
          have hAT := e20 D _ (e19 D _ hDp (g18 D _ hA))
          have hLT := ot_up e20 (ob_p e19 hp18 (ot_up g18 hLs))
          have hpT : Pen (upd (upd H19 t3 (.tup [])) T (.tup [.ref t1, .ref t2, .ref t3])) p l ms (200 * (i : Int) + 150) := (hp19.up e20).more (by omega)
          generalize upd (upd H19 t3 (.tup [])) T (.tup [.ref t1, .ref t2, .ref t3]) = HT at hT3 hTT hAT hLT hpT
          clear e20 k1 h19 hp19 e19 ht2 ht3 hT
          refine for_tup (K := K) (a := T) (xs := [.ref t1, .ref t2, .ref t3]) (fun j σ' H' => ∃ y6 y8, σ' = [some (.ref a), some (.ref p), some (.int (0 + (i : Int))), some (.int (m : Int)), some (.int far), some (.ref D), y6, some (.ref D2), y8, none, none, none] ∧ Ex HT H')
            ⟨_, _, rfl, Ex.refl HT⟩ (fun j σ' H' _ ⟨_, _, _, e⟩ => ex_t e (st_of hTT)) ?_ ?_
          · rintro j x σ' H21 hj ⟨y6', y8', rfl, e21⟩
            obtain ⟨lt, hlt, b', o', rfl, hb', rfl⟩ := pget hT3 hj
            have hltm : Lot lt (m : Int) := by
              rcases List.mem_cons.mp (List.mem_of_getElem? hlt) with z | z
              · rw [z]
                exact sum2_lot hsl
              rcases List.mem_cons.mp z with z | z
              · rw [z]
                exact hlot2
              rcases List.mem_cons.mp z with z | z
              · rw [z]
                exact ⟨.nil, fun _ h => by cases h⟩
              cases z
            have hltl := hltm.len
            refine q_as (eo_lcL (K := K) (G := isT) (σ := [some (.ref a), some (.ref p), some (.int (0 + (i : Int))), some (.int (m : Int)), some (.int far), some (.ref D), some (.ref b'), some (.ref D2), y8', none, none, none]) (H := H21) (a := D) (xs := xs) (tl := tVar 5) (te := tWide K 10) (j := 10) (vs := [10])
              (ls.map (wd far)) (by rw [List.length_map]; exact hxl) (ev_var rfl) (sq_of (e21 D _ hAT)) (by rw [List.length_map]; omega) (fun _ => rfl) (fun u x y H22 e22 hx hy => by
                obtain ⟨lu, hlu, b2, o2, rfl, hb2, rfl⟩ := pget hLT hx
                rw [List.getElem?_map, hlu] at hy
                cases hy
                have := (hlot lu (List.mem_of_getElem? hlu)).len
                exact ef_wide (j := 10) (b := b2) rfl rfl (show 11 < 12 by decide) (fun _ => rfl) (.inr (st_of ((e21.trans e22) b2 _ hb2))) (by omega)) H21 (Ex.refl H21) _ fun Wd us3 H22 hWd e22 h22 hP22 => ?_)
            refine s_if0 ⟨.ref Wd, rfl, ?_⟩
            refine ef_wide (K := K) (σ := [some (.ref a), some (.ref p), some (.int (0 + (i : Int))), some (.int (m : Int)), some (.int far), some (.ref D), some (.ref b'), some (.ref D2), some (.ref Wd), none, none, none]) (H := H22) (j := 6) (b := b') (l := lt) (far := far) rfl rfl (show 11 < 12 by decide) (fun _ => rfl) (.inr (st_of ((e21.trans e22) b' _ hb'))) (by omega) H22 (Ex.refl H22) _ fun t7 o7 H23 ht7 e23 h23 g23 => ?_
            refine ⟨Wd, t7, us3, ls.map (wd far), wd far lt, rfl, e23 Wd _ h22, lots_T (ot_up e23 hP22), st_of (by rw [h23, g23]), wd_small hl6 hlot hltm hm6, fun H24 e24 => ⟨true, rfl, ?_⟩⟩
            refine iteF ?_
            exact ⟨_, _, rfl, ((e21.trans e22).trans e23).trans e24⟩
          · rintro σ' H21 ⟨y6', y8', rfl, e21⟩
            exact ⟨_, _, _, _, _, _, _, rfl, (hpT.up e21).more (by omega)⟩
    · rintro σ' H2 ⟨y2, y3, y4, y5, y6, y7, y8, rfl, hp⟩
      refine nx_op2 (q_if0 ?_)
      refine ⟨.ref p, rfl, p, l, ms, _, rfl, hp, by decide, fun H3 e3 => ⟨true, rfl, ?_⟩⟩
      refine iteF (nx_op (s_re (an_op (op_op (c_op (a_op (l_op ⟨Nat.zero_le _, fun e hE => ?_⟩)))))))
      refine ⟨.ref e, [], rfl, ⟨e, [], rfl, .inl (sq_of upd_same), .nil⟩, by simp, fun t H4 ht e4 h4 => ⟨Nat.zero_le _, fun t2 ht2 => ?_⟩⟩
      refine ⟨.tuple (intsD []), .tuple (intsD []), .tup (st_of (Ex.new ht2 t _ h4)) .nil, .tup (st_of upd_same) .nil, sh_tup [], sh_tup [], true, by rw [eqv_tup]; rfl, iteT ?_⟩
      generalize upd H4 t2 (.tup []) = H5
      refine an_op (c_op (a_op (l_op ⟨Nat.zero_le _, fun a1 ha1 => ⟨Nat.zero_le _, fun b1 hb1 => ?_⟩⟩)))
      refine ⟨a1, b1, [], [], [], rfl, Ex.new hb1 a1 _ upd_same, .nil, st_of upd_same, ⟨by simp, (fun l hl => by cases hl), by simp⟩, fun H6 e6 => ⟨true, rfl, iteT ?_⟩⟩
      refine an_op (c_op (a_op (l_op ⟨Nat.zero_le _, fun a2 ha2 => ⟨sz_of (by simp), fun b2 hb2 => ?_⟩⟩)))
      refine ⟨a2, b2, [], [], [3], rfl, Ex.new hb2 a2 _ upd_same, .nil, st_of upd_same, ⟨by simp, (fun l hl => by cases hl), by simp⟩, fun H7 e7 => ⟨true, rfl, iteT ?_⟩⟩
      refine ⟨Nat.zero_le _, fun t3 ht3 => ⟨sz_of (by simp), fun a3 ha3 => ⟨sz_of (by simp), fun b3 hb3 => ?_⟩⟩⟩
      refine ⟨a3, b3, [.ref t3], [[]], [0, 5], rfl, Ex.new hb3 a3 _ upd_same, .cons ⟨t3, rfl, .inr (st_of (((Ex.new ha3).trans (Ex.new hb3)) t3 _ upd_same))⟩ .nil, st_of upd_same, ⟨by simp, (fun l hl => by rw [List.mem_singleton.mp hl]; simp), by simp⟩, fun H8 e8 => q H8⟩
end
end KS
namespace KS
open PySem PySem.Spec PyProof.Rows L2 KR KM Evl StX
/-! ### what the top has written -/
def fnA_mk {K : PySem.W.Frag} {mg : Str → Option Value} {h : Heap} (X : K.In h) (G : h.Ns mainGlobals mg) {x : Str} {st : Stmt} {ps : List Str} {f : Addr} {oc : Value} {od an : Option Addr} {osl : Array (Option Value)} {kV doc pm cdv ct : Value}
    (a : PySem.W.nsIn K mainGlobals x = some (some (.ref f))) (l : K.lookup f = some ⟨oc, od, .func (PySem.W.fnOf x x (defArgs st) (defBody st) (defScope st) .none kV doc pm an cdv ct), osl⟩) (c : PySem.W.codeIn K cdv x = true) (k : PySem.W.keepIn K (.ref f) = true)
    (hb : ∀ (kV doc pm : Value) (an : Option Addr) (cdv ct : Value) (us : List Value), us.length = ps.length → bindArgs (PySem.W.fnOf x x (defArgs st) (defBody st) (defScope st) .none kV doc pm an cdv ct) ⟨us, []⟩ = pure (ps.zip us)) : FnA K mg x st ps :=
  ⟨f, _, fun_mk l c k, (fun_mk l c k).binds hb, PySem.W.mg_of X G a⟩
theorem all_mk {l : PySem.W.OpenLaw} {w : World} {K : PySem.W.Frag} {h : Heap} {mg : Str → Option Value} {fa fL : Addr} (X : K.In h) (G : h.Ns mainGlobals mg) (hfa : mg "law" = some (.ref fa))
    {f_num : Addr} {oc_num kV_num dc_num pm_num cd_num ct_num : Value} {od_num an_num : Option Addr} {sl_num : Array (Option Value)}
    (a_num : PySem.W.nsIn K mainGlobals "numbers_in" = some (some (.ref f_num))) (l_num : K.lookup f_num = some ⟨oc_num, od_num, .func (PySem.W.fnOf "numbers_in" "numbers_in" (defArgs sNum) (defBody sNum) (defScope sNum) .none kV_num dc_num pm_num an_num cd_num ct_num), sl_num⟩) (c_num : PySem.W.codeIn K cd_num "numbers_in" = true) (k_num : PySem.W.keepIn K (.ref f_num) = true)
    {f_mask : Addr} {oc_mask kV_mask dc_mask pm_mask cd_mask ct_mask : Value} {od_mask an_mask : Option Addr} {sl_mask : Array (Option Value)}
    (a_mask : PySem.W.nsIn K mainGlobals "mask_of" = some (some (.ref f_mask))) (l_mask : K.lookup f_mask = some ⟨oc_mask, od_mask, .func (PySem.W.fnOf "mask_of" "mask_of" (defArgs sMask) (defBody sMask) (defScope sMask) .none kV_mask dc_mask pm_mask an_mask cd_mask ct_mask), sl_mask⟩) (c_mask : PySem.W.codeIn K cd_mask "mask_of" = true) (k_mask : PySem.W.keepIn K (.ref f_mask) = true)
    {f_bits : Addr} {oc_bits kV_bits dc_bits pm_bits cd_bits ct_bits : Value} {od_bits an_bits : Option Addr} {sl_bits : Array (Option Value)}
    (a_bits : PySem.W.nsIn K mainGlobals "bits_of" = some (some (.ref f_bits))) (l_bits : K.lookup f_bits = some ⟨oc_bits, od_bits, .func (PySem.W.fnOf "bits_of" "bits_of" (defArgs sBits) (defBody sBits) (defScope sBits) .none kV_bits dc_bits pm_bits an_bits cd_bits ct_bits), sl_bits⟩) (c_bits : PySem.W.codeIn K cd_bits "bits_of" = true) (k_bits : PySem.W.keepIn K (.ref f_bits) = true)
    {f_left : Addr} {oc_left kV_left dc_left pm_left cd_left ct_left : Value} {od_left an_left : Option Addr} {sl_left : Array (Option Value)}
    (a_left : PySem.W.nsIn K mainGlobals "left_over" = some (some (.ref f_left))) (l_left : K.lookup f_left = some ⟨oc_left, od_left, .func (PySem.W.fnOf "left_over" "left_over" (defArgs sLeft) (defBody sLeft) (defScope sLeft) .none kV_left dc_left pm_left an_left cd_left ct_left), sl_left⟩) (c_left : PySem.W.codeIn K cd_left "left_over" = true) (k_left : PySem.W.keepIn K (.ref f_left) = true)
    {f_bas : Addr} {oc_bas kV_bas dc_bas pm_bas cd_bas ct_bas : Value} {od_bas an_bas : Option Addr} {sl_bas : Array (Option Value)}
    (a_bas : PySem.W.nsIn K mainGlobals "basis_of" = some (some (.ref f_bas))) (l_bas : K.lookup f_bas = some ⟨oc_bas, od_bas, .func (PySem.W.fnOf "basis_of" "basis_of" (defArgs sBas) (defBody sBas) (defScope sBas) .none kV_bas dc_bas pm_bas an_bas cd_bas ct_bas), sl_bas⟩) (c_bas : PySem.W.codeIn K cd_bas "basis_of" = true) (k_bas : PySem.W.keepIn K (.ref f_bas) = true)
    {f_sn : Addr} {oc_sn kV_sn dc_sn pm_sn cd_sn ct_sn : Value} {od_sn an_sn : Option Addr} {sl_sn : Array (Option Value)}
    (a_sn : PySem.W.nsIn K mainGlobals "sum_numbers" = some (some (.ref f_sn))) (l_sn : K.lookup f_sn = some ⟨oc_sn, od_sn, .func (PySem.W.fnOf "sum_numbers" "sum_numbers" (defArgs sSN) (defBody sSN) (defScope sSN) .none kV_sn dc_sn pm_sn an_sn cd_sn ct_sn), sl_sn⟩) (c_sn : PySem.W.codeIn K cd_sn "sum_numbers" = true) (k_sn : PySem.W.keepIn K (.ref f_sn) = true)
    {f_bar : Addr} {oc_bar kV_bar dc_bar pm_bar cd_bar ct_bar : Value} {od_bar an_bar : Option Addr} {sl_bar : Array (Option Value)}
    (a_bar : PySem.W.nsIn K mainGlobals "barring" = some (some (.ref f_bar))) (l_bar : K.lookup f_bar = some ⟨oc_bar, od_bar, .func (PySem.W.fnOf "barring" "barring" (defArgs sBar) (defBody sBar) (defScope sBar) .none kV_bar dc_bar pm_bar an_bar cd_bar ct_bar), sl_bar⟩) (c_bar : PySem.W.codeIn K cd_bar "barring" = true) (k_bar : PySem.W.keepIn K (.ref f_bar) = true)
    {f_ls : Addr} {oc_ls kV_ls dc_ls pm_ls cd_ls ct_ls : Value} {od_ls an_ls : Option Addr} {sl_ls : Array (Option Value)}
    (a_ls : PySem.W.nsIn K mainGlobals "_law_sum" = some (some (.ref f_ls))) (l_ls : K.lookup f_ls = some ⟨oc_ls, od_ls, .func (PySem.W.fnOf "_law_sum" "_law_sum" (defArgs sLS) (defBody sLS) (defScope sLS) .none kV_ls dc_ls pm_ls an_ls cd_ls ct_ls), sl_ls⟩) (c_ls : PySem.W.codeIn K cd_ls "_law_sum" = true) (k_ls : PySem.W.keepIn K (.ref f_ls) = true)
    {f_cho : Addr} {oc_cho kV_cho dc_cho pm_cho cd_cho ct_cho : Value} {od_cho an_cho : Option Addr} {sl_cho : Array (Option Value)}
    (a_cho : PySem.W.nsIn K mainGlobals "_law_choices" = some (some (.ref f_cho))) (l_cho : K.lookup f_cho = some ⟨oc_cho, od_cho, .func (PySem.W.fnOf "_law_choices" "_law_choices" (defArgs sCho) (defBody sCho) (defScope sCho) .none kV_cho dc_cho pm_cho an_cho cd_cho ct_cho), sl_cho⟩) (c_cho : PySem.W.codeIn K cd_cho "_law_choices" = true) (k_cho : PySem.W.keepIn K (.ref f_cho) = true)
    {f_pen : Addr} {oc_pen kV_pen dc_pen pm_pen cd_pen ct_pen : Value} {od_pen an_pen : Option Addr} {sl_pen : Array (Option Value)}
    (a_pen : PySem.W.nsIn K mainGlobals "_law_pen" = some (some (.ref f_pen))) (l_pen : K.lookup f_pen = some ⟨oc_pen, od_pen, .func (PySem.W.fnOf "_law_pen" "_law_pen" (defArgs sPen) (defBody sPen) (defScope sPen) .none kV_pen dc_pen pm_pen an_pen cd_pen ct_pen), sl_pen⟩) (c_pen : PySem.W.codeIn K cd_pen "_law_pen" = true) (k_pen : PySem.W.keepIn K (.ref f_pen) = true)
    {f_draw : Addr} {oc_draw kV_draw dc_draw pm_draw cd_draw ct_draw : Value} {od_draw an_draw : Option Addr} {sl_draw : Array (Option Value)}
    (a_draw : PySem.W.nsIn K mainGlobals "_law_draw" = some (some (.ref f_draw))) (l_draw : K.lookup f_draw = some ⟨oc_draw, od_draw, .func (PySem.W.fnOf "_law_draw" "_law_draw" (defArgs sDraw) (defBody sDraw) (defScope sDraw) .none kV_draw dc_draw pm_draw an_draw cd_draw ct_draw), sl_draw⟩) (c_draw : PySem.W.codeIn K cd_draw "_law_draw" = true) (k_draw : PySem.W.keepIn K (.ref f_draw) = true)
    {f_pick : Addr} {oc_pick kV_pick dc_pick pm_pick cd_pick ct_pick : Value} {od_pick an_pick : Option Addr} {sl_pick : Array (Option Value)}
    (a_pick : PySem.W.nsIn K mainGlobals "_law_pick" = some (some (.ref f_pick))) (l_pick : K.lookup f_pick = some ⟨oc_pick, od_pick, .func (PySem.W.fnOf "_law_pick" "_law_pick" (defArgs sPick) (defBody sPick) (defScope sPick) .none kV_pick dc_pick pm_pick an_pick cd_pick ct_pick), sl_pick⟩) (c_pick : PySem.W.codeIn K cd_pick "_law_pick" = true) (k_pick : PySem.W.keepIn K (.ref f_pick) = true)
    {f_lot : Addr} {oc_lot kV_lot dc_lot pm_lot cd_lot ct_lot : Value} {od_lot an_lot : Option Addr} {sl_lot : Array (Option Value)}
    (a_lot : PySem.W.nsIn K mainGlobals "_law_lot" = some (some (.ref f_lot))) (l_lot : K.lookup f_lot = some ⟨oc_lot, od_lot, .func (PySem.W.fnOf "_law_lot" "_law_lot" (defArgs sLot) (defBody sLot) (defScope sLot) .none kV_lot dc_lot pm_lot an_lot cd_lot ct_lot), sl_lot⟩) (c_lot : PySem.W.codeIn K cd_lot "_law_lot" = true) (k_lot : PySem.W.keepIn K (.ref f_lot) = true)
    {f_sum : Addr} {oc_sum kV_sum dc_sum pm_sum cd_sum ct_sum : Value} {od_sum an_sum : Option Addr} {sl_sum : Array (Option Value)}
    (a_sum : PySem.W.nsIn K mainGlobals "sum_of" = some (some (.ref f_sum))) (l_sum : K.lookup f_sum = some ⟨oc_sum, od_sum, .func (PySem.W.fnOf "sum_of" "sum_of" (defArgs sSum) (defBody sSum) (defScope sSum) .none kV_sum dc_sum pm_sum an_sum cd_sum ct_sum), sl_sum⟩) (c_sum : PySem.W.codeIn K cd_sum "sum_of" = true) (k_sum : PySem.W.keepIn K (.ref f_sum) = true)
    {f_ask : Addr} {oc_ask kV_ask dc_ask pm_ask cd_ask ct_ask : Value} {od_ask an_ask : Option Addr} {sl_ask : Array (Option Value)}
    (a_ask : PySem.W.nsIn K mainGlobals "_law_asked_right" = some (some (.ref f_ask))) (l_ask : K.lookup f_ask = some ⟨oc_ask, od_ask, .func (PySem.W.fnOf "_law_asked_right" "_law_asked_right" (defArgs sAsk) (defBody sAsk) (defScope sAsk) .none kV_ask dc_ask pm_ask an_ask cd_ask ct_ask), sl_ask⟩) (c_ask : PySem.W.codeIn K cd_ask "_law_asked_right" = true) (k_ask : PySem.W.keepIn K (.ref f_ask) = true)
    {f_long : Addr} {oc_long kV_long dc_long pm_long cd_long ct_long : Value} {od_long an_long : Option Addr} {sl_long : Array (Option Value)}
    (a_long : PySem.W.nsIn K mainGlobals "_law_long_right" = some (some (.ref f_long))) (l_long : K.lookup f_long = some ⟨oc_long, od_long, .func (PySem.W.fnOf "_law_long_right" "_law_long_right" (defArgs sLong) (defBody sLong) (defScope sLong) .none kV_long dc_long pm_long an_long cd_long ct_long), sl_long⟩) (c_long : PySem.W.codeIn K cd_long "_law_long_right" = true) (k_long : PySem.W.keepIn K (.ref f_long) = true)
    {oc_law kV_law dc_law pm_law cd_law ct_law : Value} {od_law an_law : Option Addr} {sl_law : Array (Option Value)}
    (a_law : PySem.W.nsIn K mainGlobals "law" = some (some (.ref fL))) (l_law : K.lookup fL = some ⟨oc_law, od_law, .func (PySem.W.fnOf "law" "law" (defArgs sLaw) (defBody sLaw) (defScope sLaw) .none kV_law dc_law pm_law an_law cd_law ct_law), sl_law⟩) (c_law : PySem.W.codeIn K cd_law "law" = true) (k_law : PySem.W.keepIn K (.ref fL) = true)
    (z_tuple : PySem.W.nsIn K mainGlobals "tuple" = some none)    (z_sorted : PySem.W.nsIn K mainGlobals "sorted" = some none)    (z_len : PySem.W.nsIn K mainGlobals "len" = some none)    (z_int : PySem.W.nsIn K mainGlobals "int" = some none)    (z_enumerate : PySem.W.nsIn K mainGlobals "enumerate" = some none)    (z_range : PySem.W.nsIn K mainGlobals "range" = some none)    (z_list : PySem.W.nsIn K mainGlobals "list" = some none)    (z_set : PySem.W.nsIn K mainGlobals "set" = some none)    (z_abs : PySem.W.nsIn K mainGlobals "abs" = some none)    (z_isinstance : PySem.W.nsIn K mainGlobals "isinstance" = some none) :
    ∃ fd : FuncData, (∀ (s : Shared) (v : Value), BindsTo s fd ⟨[v], []⟩ [("_law_script", v)]) ∧ ∀ base : Heap, K.In base → base.Ns mainGlobals mg → FnOk l.prog w K mg base CX0 5 fa fd ["_law_script"] (spLaw K) := by
  have e := hfa.symm.trans (PySem.W.mg_of X G a_law)
  cases e
  have B : Bu mg := ⟨PySem.W.mg_none_of X G z_tuple, PySem.W.mg_none_of X G z_sorted, PySem.W.mg_none_of X G z_len, PySem.W.mg_none_of X G z_int, PySem.W.mg_none_of X G z_enumerate, PySem.W.mg_none_of X G z_range, PySem.W.mg_none_of X G z_list, PySem.W.mg_none_of X G z_set, PySem.W.mg_none_of X G z_abs, PySem.W.mg_none_of X G z_isinstance⟩
  let A_num : FnA K mg "numbers_in" sNum ["lots"] := fnA_mk X G a_num l_num c_num k_num fun _ _ _ _ _ _ us hl => match us, hl with | [_], _ => rfl
  let A_mask : FnA K mg "mask_of" sMask ["lot", "places"] := fnA_mk X G a_mask l_mask c_mask k_mask fun _ _ _ _ _ _ us hl => match us, hl with | [_, _], _ => rfl
  let A_bits : FnA K mg "bits_of" sBits ["mask"] := fnA_mk X G a_bits l_bits c_bits k_bits fun _ _ _ _ _ _ us hl => match us, hl with | [_], _ => rfl
  let A_left : FnA K mg "left_over" sLeft ["basis", "mask", "numbers"] := fnA_mk X G a_left l_left c_left k_left fun _ _ _ _ _ _ us hl => match us, hl with | [_, _, _], _ => rfl
  let A_bas : FnA K mg "basis_of" sBas ["masks"] := fnA_mk X G a_bas l_bas c_bas k_bas fun _ _ _ _ _ _ us hl => match us, hl with | [_], _ => rfl
  let A_sn : FnA K mg "sum_numbers" sSN ["lots", "lot"] := fnA_mk X G a_sn l_sn c_sn k_sn fun _ _ _ _ _ _ us hl => match us, hl with | [_, _], _ => rfl
  let A_bar : FnA K mg "barring" sBar ["lots", "lot"] := fnA_mk X G a_bar l_bar c_bar k_bar fun _ _ _ _ _ _ us hl => match us, hl with | [_, _], _ => rfl
  let A_ls : FnA K mg "_law_sum" sLS ["_law_lots"] := fnA_mk X G a_ls l_ls c_ls k_ls fun _ _ _ _ _ _ us hl => match us, hl with | [_], _ => rfl
  let A_cho : FnA K mg "_law_choices" sCho ["_law_many"] := fnA_mk X G a_cho l_cho c_cho k_cho fun _ _ _ _ _ _ us hl => match us, hl with | [_], _ => rfl
  let A_pen : FnA K mg "_law_pen" sPen ["_law_script"] := fnA_mk X G a_pen l_pen c_pen k_pen fun _ _ _ _ _ _ us hl => match us, hl with | [_], _ => rfl
  let A_draw : FnA K mg "_law_draw" sDraw ["_law_pen_here", "_law_many"] := fnA_mk X G a_draw l_draw c_draw k_draw fun _ _ _ _ _ _ us hl => match us, hl with | [_, _], _ => rfl
  let A_pick : FnA K mg "_law_pick" sPick ["_law_pen_here", "_law_some"] := fnA_mk X G a_pick l_pick c_pick k_pick fun _ _ _ _ _ _ us hl => match us, hl with | [_, _], _ => rfl
  let A_lot : FnA K mg "_law_lot" sLot ["_law_pen_here", "_law_width"] := fnA_mk X G a_lot l_lot c_lot k_lot fun _ _ _ _ _ _ us hl => match us, hl with | [_, _], _ => rfl
  let A_sum : FnA K mg "sum_of" sSum ["lots"] := fnA_mk X G a_sum l_sum c_sum k_sum fun _ _ _ _ _ _ us hl => match us, hl with | [_], _ => rfl
  let A_ask : FnA K mg "_law_asked_right" sAsk ["_law_lots", "_law_lot_here"] := fnA_mk X G a_ask l_ask c_ask k_ask fun _ _ _ _ _ _ us hl => match us, hl with | [_, _], _ => rfl
  let A_long : FnA K mg "_law_long_right" sLong ["_law_pen_here"] := fnA_mk X G a_long l_long c_long k_long fun _ _ _ _ _ _ us hl => match us, hl with | [_], _ => rfl
  have snk : KBn K A_sn.fd ["lots", "lot"] 0 ["lots", "lot"] (fun _ ws => ws) (fun _ zs => zs) := fun_kb A_sn.F (g := fun ws => ws) (gV := fun zs => zs) (fun _ _ _ _ _ _ ws hl => match ws, hl with | [_, _], _ => rfl) fun r => r
  have bark : KBn K A_bar.fd ["lots", "lot"] 0 ["lot", "lots"] (fun _ ws => swap2 ws) (fun _ zs => swap2 zs) := fun_kb A_bar.F (g := swap2) (gV := swap2) (fun _ _ _ _ _ _ ws hl => match ws, hl with | [_, _], _ => rfl) fun r => swap2_vals r
  have sumk : KBn K A_sum.fd ["lots"] 0 ["lots"] (fun _ ws => ws) (fun _ zs => zs) := fun_kb A_sum.F (g := fun ws => ws) (gV := fun zs => zs) (fun _ _ _ _ _ _ ws hl => match ws, hl with | [_], _ => rfl) fun r => r
  let A1 : AsA K mg := ⟨⟨A_num, A_mask, A_bits, A_left, A_bas⟩, A_sn, A_bar, A_ls, A_cho, snk, bark⟩
  let A2 : LawA K mg := ⟨A1, A_pen, A_draw, A_pick, A_lot, A_sum, sumk, A_ask, A_long⟩
  exact ⟨PySem.W.fnOf "law" "law" (defArgs sLaw) (defBody sLaw) (defScope sLaw) .none kV_law dc_law pm_law an_law cd_law ct_law, fun s v => .of_eq rfl, fun base _ _ => ok_law (k := 0) (fun_mk (st := sLaw) l_law c_law k_law) B A2⟩
end KS
open PySem PySem.W PyProof.Rows
set_option maxHeartbeats 0 in
theorem PySem.Challenge.cw_otherhand_k01_sums_by_two_or_what_bars_t_holds : PySem.Challenge.rw_otherhand_k01_sums_by_two_or_what_bars_t.Holds := by
  w_on; o_law; k_head; (case hw => w_witness2)
  k_fill
  refine L2.walk_of (l := PySem.Challenge.rw_otherhand_k01_sums_by_two_or_what_bars_t) (n := 63) (k := 5) (x := "_law_script") (CX := fun _ => L2.CX0) (sp := fun w => KS.spLaw _) rfl (by decide) rfl ⟨rfl, by decide, by decide⟩ (fun w h Y => PySem.W.kIn_of Y) ?F (fun _ _ a ns hl _ hS => ⟨a, ns, rfl, hS, hl, fun _ => rfl⟩) (fun _ _ _ _ _ h => h)
  case F =>
    intro w mg fa h KX G hmg
    refine' KS.all_mk KX G hmg ?a_num ?l_num ?c_num ?k_num ?a_mask ?l_mask ?c_mask ?k_mask ?a_bits ?l_bits ?c_bits ?k_bits ?a_left ?l_left ?c_left ?k_left ?a_bas ?l_bas ?c_bas ?k_bas ?a_sn ?l_sn ?c_sn ?k_sn ?a_bar ?l_bar ?c_bar ?k_bar ?a_ls ?l_ls ?c_ls ?k_ls ?a_cho ?l_cho ?c_cho ?k_cho ?a_pen ?l_pen ?c_pen ?k_pen ?a_draw ?l_draw ?c_draw ?k_draw ?a_pick ?l_pick ?c_pick ?k_pick ?a_lot ?l_lot ?c_lot ?k_lot ?a_sum ?l_sum ?c_sum ?k_sum ?a_ask ?l_ask ?c_ask ?k_ask ?a_long ?l_long ?c_long ?k_long ?a_law ?l_law ?c_law ?k_law ?z_tuple ?z_sorted ?z_len ?z_int ?z_enumerate ?z_range ?z_list ?z_set ?z_abs ?z_isinstance
    (case a_num => k_is); (case l_num => k_is); (case c_num => k_is); (case k_num => k_is); (case a_mask => k_is); (case l_mask => k_is); (case c_mask => k_is); (case k_mask => k_is); (case a_bits => k_is); (case l_bits => k_is); (case c_bits => k_is); (case k_bits => k_is); (case a_left => k_is); (case l_left => k_is); (case c_left => k_is); (case k_left => k_is); (case a_bas => k_is); (case l_bas => k_is); (case c_bas => k_is); (case k_bas => k_is); (case a_sn => k_is); (case l_sn => k_is); (case c_sn => k_is); (case k_sn => k_is); (case a_bar => k_is); (case l_bar => k_is); (case c_bar => k_is); (case k_bar => k_is); (case a_ls => k_is); (case l_ls => k_is); (case c_ls => k_is); (case k_ls => k_is); (case a_cho => k_is); (case l_cho => k_is); (case c_cho => k_is); (case k_cho => k_is); (case a_pen => k_is); (case l_pen => k_is); (case c_pen => k_is); (case k_pen => k_is); (case a_draw => k_is); (case l_draw => k_is); (case c_draw => k_is); (case k_draw => k_is); (case a_pick => k_is); (case l_pick => k_is); (case c_pick => k_is); (case k_pick => k_is); (case a_lot => k_is); (case l_lot => k_is); (case c_lot => k_is); (case k_lot => k_is); (case a_sum => k_is); (case l_sum => k_is); (case c_sum => k_is); (case k_sum => k_is); (case a_ask => k_is); (case l_ask => k_is); (case c_ask => k_is); (case k_ask => k_is); (case a_long => k_is); (case l_long => k_is); (case c_long => k_is); (case k_long => k_is); (case a_law => k_is); (case l_law => k_is); (case c_law => k_is); (case k_law => k_is); (case z_tuple => k_is); (case z_sorted => k_is); (case z_len => k_is); (case z_int => k_is); (case z_enumerate => k_is); (case z_range => k_is); (case z_list => k_is); (case z_set => k_is); (case z_abs => k_is); (case z_isinstance => k_is)

/- Plain facts on the lines of a text: where each line starts; how starts, lines and columns hang together. No program stands in it. -/
import Derived.Lib.Bytealg
namespace Go.Proofs.YtokdoklkaojheaaDoor
open Go

def startsFrom : Nat → List UInt8 → List Nat
  | _, [] => []
  | i, c :: l => if c = 10 then (i + 1) :: startsFrom (i + 1) l else startsFrom (i + 1) l
def starts (l : List UInt8) : List Nat := 0 :: startsFrom 0 l

theorem startsFrom_append (x y : List UInt8) : ∀ i, startsFrom i (x ++ y) = startsFrom i x ++ startsFrom (i + x.length) y := by
  induction x with
  | nil => intro i; simp [startsFrom]
  | cons c x ih =>
    intro i
    simp only [List.cons_append, startsFrom, ih, List.length_cons]
    have : i + 1 + x.length = i + (x.length + 1) := by omega
    split <;> simp [this]
theorem startsFrom_snoc (x : List UInt8) (c : UInt8) (i : Nat) : startsFrom i (x ++ [c]) = startsFrom i x ++ if c = 10 then [i + x.length + 1] else [] := by
  rw [startsFrom_append]; simp [startsFrom]
theorem startsFrom_length (l : List UInt8) : ∀ i, (startsFrom i l).length = l.count 10 := by
  induction l with
  | nil => intro i; simp [startsFrom]
  | cons c l ih =>
    intro i
    by_cases h : c = 10 <;> simp [startsFrom, h, ih, List.count_cons]
theorem startsFrom_bound (l : List UInt8) : ∀ i a, a ∈ startsFrom i l → i < a ∧ a ≤ i + l.length := by
  induction l with
  | nil => intro i a h; simp [startsFrom] at h
  | cons c l ih =>
    intro i a h
    simp only [startsFrom] at h
    simp only [List.length_cons]
    split at h
    · rcases List.mem_cons.1 h with rfl | h
      · omega
      · have := ih _ _ h; omega
    · have := ih _ _ h; omega
theorem starts_length (l : List UInt8) : (starts l).length = l.count 10 + 1 := by simp [starts, startsFrom_length]
theorem starts_bound (l : List UInt8) (a : Nat) (h : a ∈ starts l) : a ≤ l.length := by
  rcases List.mem_cons.1 h with rfl | h
  · omega
  · have := startsFrom_bound l 0 a h; omega

/-- the next start, by the index of the next line feed -/
theorem startsFrom_index (l : List UInt8) : ∀ i, (Lib.indexByte l 10 = -1 ∧ startsFrom i l = []) ∨
    ∃ j : Nat, Lib.indexByte l 10 = j ∧ j < l.length ∧ startsFrom i l = (i + j + 1) :: startsFrom (i + j + 1) (l.drop (j + 1)) := by
  induction l with
  | nil => intro i; left; exact ⟨rfl, rfl⟩
  | cons c l ih =>
    intro i
    by_cases h : c = 10
    · right; exact ⟨0, by simp [Lib.indexByte, h], by simp, by simp [startsFrom, h]⟩
    · have hb : (c == 10) = false := by simpa using h
      rcases ih (i + 1) with ⟨h1, h2⟩ | ⟨j, h1, h2, h3⟩
      · left; exact ⟨by simp [Lib.indexByte, hb, h1], by simp [startsFrom, h, h2]⟩
      · right
        have hj : ((j : Int) == -1) = false := by simp
        refine ⟨j + 1, by simp [Lib.indexByte, hb, h1, hj], by simpa using h2, ?_⟩
        simp only [startsFrom, if_neg h, h3]
        have : i + 1 + j + 1 = i + (j + 1) + 1 := by omega
        simp [this]

/-- the start of a line, and what follows -/
theorem starts_drop (l : List UInt8) (k : Nat) (h : k < (starts l).length) : ∃ a, (starts l).drop k = a :: startsFrom a (l.drop a) ∧ a ≤ l.length := by
  induction k with
  | zero => exact ⟨0, by simp [starts], by omega⟩
  | succ k ih =>
    obtain ⟨a, h1, h2⟩ := ih (by omega)
    rcases startsFrom_index (l.drop a) a with ⟨_, h4⟩ | ⟨j, _, h5, h6⟩
    · rw [h4] at h1
      have := congrArg List.length h1
      simp at this; omega
    · refine ⟨a + j + 1, ?_, by simp at h5; omega⟩
      have : (starts l).drop (k + 1) = ((starts l).drop k).drop 1 := by rw [List.drop_drop]
      rw [this, h1, h6]
      simp [List.drop_drop, Nat.add_assoc]

def posStep (p : Nat × Nat) (c : UInt8) : Nat × Nat := if c = 10 then (p.1 + 1, 1) else (p.1, p.2 + 1)
def posOf (l : List UInt8) : Nat × Nat := l.foldl posStep (1, 1)
theorem posOf_snoc (l : List UInt8) (c : UInt8) : posOf (l ++ [c]) = posStep (posOf l) c := by simp [posOf]

theorem snoc_ind {P : List UInt8 → Prop} (h0 : P []) (h1 : ∀ l c, P l → P (l ++ [c])) (l : List UInt8) : P l := by
  have : ∀ n (l : List UInt8), l.length = n → P l := by
    intro n
    induction n with
    | zero => intro l h; rw [List.length_eq_zero_iff.1 h]; exact h0
    | succ n ih =>
      intro l h
      have hne : l ≠ [] := by intro e; simp [e] at h
      rw [← List.dropLast_concat_getLast hne]
      exact h1 _ _ (ih _ (by simp; omega))
  exact this _ l rfl

/-- line and column, by the starts -/
theorem posOf_starts (l : List UInt8) : (starts l).length = (posOf l).1 ∧ 1 ≤ (posOf l).2 ∧ ∃ x, starts l = x ++ [l.length + 1 - (posOf l).2] ∧ (posOf l).2 ≤ l.length + 1 := by
  refine snoc_ind (P := fun l => (starts l).length = (posOf l).1 ∧ 1 ≤ (posOf l).2 ∧ ∃ x, starts l = x ++ [l.length + 1 - (posOf l).2] ∧ (posOf l).2 ≤ l.length + 1) ?_ ?_ l
  · exact ⟨rfl, by simp [posOf], [], by simp [starts, startsFrom, posOf], by simp [posOf]⟩
  · intro l c ⟨h1, h2, x, h3, h4⟩
    rw [posOf_snoc]
    have e : starts (l ++ [c]) = starts l ++ if c = 10 then [l.length + 1] else [] := by simp [starts, startsFrom_snoc]
    rw [e]
    unfold posStep
    by_cases h : c = 10
    · simp only [h, if_true]
      exact ⟨by simp [h1], by simp, starts l, by simp, by simp⟩
    · simp only [h, if_false]
      refine ⟨by simp [h1], by omega, x, ?_, by simp; omega⟩
      rw [h3]; simp

def lineEnd (l : List UInt8) (k : Nat) : Nat := if k + 1 < (starts l).length then (starts l).getD (k + 1) 0 - 1 else l.length
/-- what Offset returns: the value and the error; the text is not too long -/
def offOf (l : List UInt8) (line col : Int) : Int × Int :=
  if line < 1 ∨ ((starts l).length : Int) < line then (0, 3) else
  if col < 1 ∨ (lineEnd l (line.toNat - 1) : Int) - (starts l).getD (line.toNat - 1) 0 < col - 1 then (0, 3)
  else ((starts l).getD (line.toNat - 1) 0 + col - 1, 0)

theorem starts_split (l : List UInt8) (n : Nat) (h : n ≤ l.length) : starts l = starts (l.take n) ++ startsFrom n (l.drop n) := by
  have e : startsFrom 0 l = startsFrom 0 (l.take n ++ l.drop n) := by rw [List.take_append_drop]
  simp only [starts, e, startsFrom_append]
  simp [Nat.min_eq_left h]

theorem off_pos (l : List UInt8) (n : Nat) (h : n ≤ l.length) : offOf l (posOf (l.take n)).1 (posOf (l.take n)).2 = ((n : Int), 0) := by
  obtain ⟨h1, h2, x, h3, h4⟩ := posOf_starts (l.take n)
  have hs := starts_split l n h
  have hlen : (l.take n).length = n := by simp [Nat.min_eq_left h]
  rw [hlen] at h3 h4
  generalize (posOf (l.take n)).1 = p at *
  generalize (posOf (l.take n)).2 = c at *
  have hx : x.length + 1 = p := by rw [h3] at h1; simpa using h1
  have hL : (starts l).length = p + (startsFrom n (l.drop n)).length := by rw [hs, List.length_append, h1]
  have ha : (starts l).getD (p - 1) 0 = n + 1 - c := by
    rw [hs, h3]
    simp [List.getD, ← hx]
  have he : n ≤ lineEnd l (p - 1) := by
    unfold lineEnd
    split
    · rename_i hk
      have hk2 : p - 1 + 1 = p := by omega
      rw [hk2] at hk ⊢
      have hm : (starts l).getD p 0 ∈ startsFrom n (l.drop n) := by
        rw [hs]
        have : (starts (l.take n)).length = p := h1
        rw [List.getD, List.getElem?_append_right (by omega)]
        simp only [this, Nat.sub_self]
        cases hq : startsFrom n (l.drop n) with
        | nil => rw [hq] at hL; simp at hL; omega
        | cons a r => simp
      have := startsFrom_bound _ _ _ hm
      omega
    · exact h
  unfold offOf
  rw [if_neg (by omega), Int.toNat_natCast, ha, if_neg (by omega)]
  exact Prod.ext (by simp; omega) rfl

theorem pos_off (l : List UInt8) (line col : Int) (m : Int) (h : offOf l line col = (m, 0)) : 0 ≤ m ∧ m.toNat ≤ l.length ∧ (((posOf (l.take m.toNat)).1 : Int) = line ∧ ((posOf (l.take m.toNat)).2 : Int) = col) := by
  unfold offOf at h
  split at h
  · simp at h
  · rename_i hl
    split at h
    · simp at h
    · rename_i hc
      have hk : line.toNat - 1 < (starts l).length := by omega
      obtain ⟨k, hk'⟩ : ∃ k : Nat, line.toNat - 1 = k := ⟨_, rfl⟩
      rw [hk'] at h hc hk
      obtain ⟨a, ha⟩ : ∃ a, (starts l).getD k 0 = a := ⟨_, rfl⟩
      rw [ha] at h hc
      have haMem : a ∈ starts l := by rw [← ha, List.getD, List.getElem?_eq_getElem hk]; exact List.getElem_mem _
      have haL := starts_bound l a haMem
      have hm : (a : Int) + col - 1 = m := (Prod.ext_iff.1 h).1
      have hmE : m ≤ lineEnd l k := by omega
      have hE : lineEnd l k ≤ l.length := by
        unfold lineEnd
        split
        · rename_i h2
          have : (starts l).getD (k + 1) 0 ∈ starts l := by rw [List.getD, List.getElem?_eq_getElem h2]; exact List.getElem_mem _
          have := starts_bound l _ this
          omega
        · omega
      obtain ⟨n, rfl⟩ := Int.eq_ofNat_of_zero_le (show 0 ≤ m by omega)
      rw [Int.toNat_natCast]
      have hn : n ≤ l.length := by omega
      refine ⟨by omega, hn, ?_⟩
      obtain ⟨h1, h2, x, h3, h4⟩ := posOf_starts (l.take n)
      have hs := starts_split l n hn
      have hlen : (l.take n).length = n := by simp [Nat.min_eq_left hn]
      rw [hlen] at h3 h4
      generalize (posOf (l.take n)).1 = p at *
      generalize (posOf (l.take n)).2 = c at *
      have hA : ∀ i, i < p → (starts l).getD i 0 ≤ n := by
        intro i hi
        have hi' : i < (starts (l.take n)).length := by omega
        rw [hs, List.getD, List.getElem?_append_left hi', List.getElem?_eq_getElem hi']
        have := starts_bound (l.take n) _ (List.getElem_mem hi')
        simp only [Option.getD_some]; omega
      have hB : ∀ i, p ≤ i → i < (starts l).length → n < (starts l).getD i 0 := by
        intro i hi hi2
        have hL : (starts l).length = p + (startsFrom n (l.drop n)).length := by rw [hs, List.length_append, h1]
        have hi3 : i - p < (startsFrom n (l.drop n)).length := by omega
        rw [hs, List.getD, List.getElem?_append_right (by omega), h1, List.getElem?_eq_getElem hi3]
        have := startsFrom_bound _ _ _ (List.getElem_mem hi3)
        simp only [Option.getD_some]; omega
      have hkp : k < p := by
        rcases Nat.lt_or_ge k p with h5 | h5
        · exact h5
        · have := hB k h5 hk; omega
      have hpk : p ≤ k + 1 := by
        rcases Nat.lt_or_ge (k + 1) p with h5 | h5
        · have h6 : k + 1 < (starts l).length := by
            have hL : (starts l).length = p + (startsFrom n (l.drop n)).length := by rw [hs, List.length_append, h1]
            omega
          have h7 := hA (k + 1) h5
          have hE' : lineEnd l k = (starts l).getD (k + 1) 0 - 1 := by unfold lineEnd; rw [if_pos h6]
          have h8 : 1 ≤ (starts l).getD (k + 1) 0 := by
            have : (starts l).getD (k + 1) 0 ∈ startsFrom 0 l := by
              have h9 : k < (startsFrom 0 l).length := by simp [starts] at h6; omega
              simp only [starts, List.getD, List.getElem?_cons_succ, List.getElem?_eq_getElem h9, Option.getD_some]
              exact List.getElem_mem _
            have := startsFrom_bound _ _ _ this
            omega
          omega
        · exact h5
      have hp : p = k + 1 := by omega
      have hxl : x.length = k := by rw [h3] at h1; simp at h1; omega
      have : (starts l).getD k 0 = n + 1 - c := by
        rw [hs, h3]; simp [List.getD, ← hxl]
      omega
end Go.Proofs.YtokdoklkaojheaaDoor

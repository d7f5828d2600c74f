/- Plain facts: the specification's tokens are those of the program's rules. No program's text stands in it. -/
import Derived.Test.YtokdoklkaojheaaDoorZc
namespace Go.Proofs.YtokdoklkaojheaaDoor
open Go.RowKit

/-- does the specification look for a second word? -/
def namedQ (l : List UInt8) : Bool := upB (l.take (wlen l)) && (decide (wlen l + 2 < l.length) && decide ((l.drop (wlen l)).take 2 = [58, 58]))
def namedW (l : List UInt8) : Nat × Nat × Int := if kwB (l.take (wlen l)) = true then (1, wlen l, 0) else (0, wlen l, 0)
def namedL (l : List UInt8) : Nat × Nat × Int :=
  if 24 < wlen l then (0, 0, 6)
  else if namedQ l = true then
    if 24 < wlen (l.drop (wlen l + 2)) then (0, 0, 6)
    else if 0 < wlen (l.drop (wlen l + 2)) ∧ kwB ((l.drop (wlen l + 2)).take (wlen (l.drop (wlen l + 2)))) = false then (0, wlen l + 2 + wlen (l.drop (wlen l + 2)), 0)
    else namedW l
  else namedW l

theorem allRs_word (l : List UInt8) (hw : 0 < wlen l) : readL (allRs l) = if (qualR l).2.2 ≠ 0 ∨ 0 < (qualR l).2.1 then qualR l else wordR l := by
  unfold allRs
  rw [readL]
  by_cases h : (qualR l).2.2 ≠ 0 ∨ 0 < (qualR l).2.1
  · rw [if_pos h, if_pos h]
  · rw [if_neg h, if_neg h, readL]
    have hx : (wordR l).2.2 ≠ 0 ∨ 0 < (wordR l).2.1 := by
      unfold wordR
      by_cases h1 : 24 < wlen l
      · rw [if_pos h1]; left; simp
      · rw [if_neg h1]
        split
        · right; exact hw
        · right; exact hw
    rw [if_pos hx]

theorem take_two_prefix (d : List UInt8) : Lib.hasPrefix d [58, 58] = decide (d.take 2 = [58, 58]) := by
  rw [Bool.eq_iff_iff, decide_eq_true_eq]
  unfold Lib.hasPrefix
  rw [List.isPrefixOf_iff_prefix, List.prefix_iff_eq_take]
  simp [eq_comm]

theorem named_same (l : List UInt8) (hw : 0 < wlen l) : readL (allRs l) = namedL l := by
  rw [allRs_word l hw]
  have hW : ¬ 24 < wlen l → wordR l = namedW l := by
    intro h; unfold wordR namedW; rw [if_neg h]
  unfold namedL
  by_cases h1 : 24 < wlen l
  · rw [if_pos h1]
    have hq : qualR l = (0, 0, 0) := by
      unfold qualR
      rw [if_pos]
      unfold qualIn
      rw [decide_eq_false (by omega)]; rfl
    rw [hq]
    simp only [ne_eq, not_true_eq_false, Nat.lt_irrefl, or_self, if_false]
    unfold wordR; rw [if_pos h1]
  · rw [if_neg h1]
    cases hqi : qualIn l (wlen l) with
    | false =>
      have hq : qualR l = (0, 0, 0) := by unfold qualR; rw [if_pos hqi]
      have hnq : namedQ l = false := by
        cases hn : namedQ l with
        | false => rfl
        | true =>
          unfold namedQ at hn
          simp only [Bool.and_eq_true, decide_eq_true_eq] at hn
          obtain ⟨hu, hlt, ht⟩ := hn
          have hp : Lib.hasPrefix (l.drop (wlen l)) [58, 58] = true := by rw [take_two_prefix, decide_eq_true ht]
          obtain ⟨w1, w2, w3⟩ := wlen_pos hw
          have hi := index_of_word l (wlen l) (by omega) hp
          rw [(qualIn_iff l).2 ⟨wlen l, hi, hu, rfl, by omega⟩] at hqi
          cases hqi
      rw [hq, hnq]
      simp only [ne_eq, not_true_eq_false, Nat.lt_irrefl, or_self, if_false, Bool.false_eq_true]
      exact hW h1
    | true =>
      obtain ⟨i, hi, hu, hwi, hl⟩ := (qualIn_iff l).1 hqi
      have hqR : qualR l = if 24 < wlen (l.drop (wlen l + 2)) then (0, 0, 6)
          else if wlen (l.drop (wlen l + 2)) = 0 ∨ kwB ((l.drop (wlen l + 2)).take (wlen (l.drop (wlen l + 2)))) = true then (0, 0, 0)
          else (0, wlen l + 2 + wlen (l.drop (wlen l + 2)), 0) := by
        unfold qualR; rw [if_neg (by rw [hqi]; simp)]
      have hp : (l.drop (wlen l)).take 2 = [58, 58] := by
        have h2 := hqi
        unfold qualIn at h2
        rw [Bool.and_eq_true, take_two_prefix] at h2
        exact of_decide_eq_true h2.2
      by_cases hlt : wlen l + 2 < l.length
      · have hnq : namedQ l = true := by
          unfold namedQ
          rw [hwi, hu, decide_eq_true (by omega), ← hwi, decide_eq_true hp]; rfl
        rw [hnq, if_pos rfl, hqR]
        by_cases h2 : 24 < wlen (l.drop (wlen l + 2))
        · rw [if_pos h2, if_pos h2]; simp
        · rw [if_neg h2, if_neg h2]
          by_cases h3 : wlen (l.drop (wlen l + 2)) = 0 ∨ kwB ((l.drop (wlen l + 2)).take (wlen (l.drop (wlen l + 2)))) = true
          · rw [if_pos h3]
            simp only [ne_eq, not_true_eq_false, Nat.lt_irrefl, or_self, if_false]
            rw [if_neg (by
              rintro ⟨h4, h5⟩
              rcases h3 with h3 | h3
              · omega
              · rw [h3] at h5; cases h5)]
            exact hW h1
          · rw [if_neg h3]
            simp only [not_or, Bool.not_eq_true] at h3
            rw [if_pos (Or.inr (show 0 < wlen l + 2 + wlen (l.drop (wlen l + 2)) by omega))]
            rw [if_pos ⟨by omega, h3.2⟩]
      · have hnq : namedQ l = false := by
          unfold namedQ; rw [decide_eq_false hlt]; simp
        have hd : l.drop (wlen l + 2) = [] := List.drop_of_length_le (by omega)
        have hqz : qualR l = (0, 0, 0) := by
          rw [hqR, hd]; rfl
        rw [hqz, hnq]
        simp only [ne_eq, not_true_eq_false, Nat.lt_irrefl, or_self, if_false, Bool.false_eq_true]
        exact hW h1

theorem wlen0_rules (l : List UInt8) (hw : wlen l = 0) : readL (allRs l) = readL [numR l, signR l] := by
  have hq : qualR l = (0, 0, 0) := by
    unfold qualR
    rw [if_pos]
    unfold qualIn
    rw [hw, decide_eq_false (by omega)]; rfl
  have hwR : wordR l = (0, 0, 0) := by
    unfold wordR
    rw [hw, if_neg (by omega), List.take_zero, kwB_nil]; rfl
  unfold allRs
  rw [hq, hwR]
  simp only [readL]
  simp

theorem sign_same (l : List UInt8) (hw : wlen l = 0) (hd : tw isDigB l = 0) : readL (allRs l) = signR l := by
  rw [wlen0_rules l hw]
  have hn : numR l = (0, 0, 0) := by unfold numR; rw [if_pos hd]
  rw [hn]
  simp only [readL]
  unfold signR
  by_cases h : signLen l = 0
  · rw [if_pos h]; simp
  · rw [if_neg h]; simp; omega

/-- the number that the specification reads -/
def numDotS (l : List UInt8) : Bool := decide (tw isDigB l < l.length) && (decide ((l.getD (tw isDigB l) 0).toNat = 46) && decide (0 < tw isDigB (l.drop (tw isDigB l + 1))))
def numEndS (l : List UInt8) : Nat × Nat := if numDotS l = true then (3, tw isDigB l + 1 + tw isDigB (l.drop (tw isDigB l + 1))) else (2, tw isDigB l)
def numBadS (l : List UInt8) : Bool := decide ((numEndS l).2 < l.length) && (isLetB (l.getD (numEndS l).2 0) || decide ((l.getD (numEndS l).2 0).toNat = 95))
def numberL (l : List UInt8) : Nat × Nat × Int :=
  if 1 < tw isDigB l ∧ (l.getD 0 0).toNat = 48 then (0, 0, 22)
  else if numBadS l = true then (0, 0, 22) else ((numEndS l).1, (numEndS l).2, 0)

theorem drop_head (l : List UInt8) (n : Nat) (h : n < l.length) : l.drop n = l.getD n 0 :: l.drop (n + 1) := by
  rw [List.drop_eq_getElem_cons h, getD_at _ _ _ h]
theorem numEnd_same (l : List UInt8) : numEnd l = numEndS l := by
  have hd : numDot l = decide (tw isDigB l < l.length ∧ (l.getD (tw isDigB l) 0).toNat = 46) := by
    unfold numDot Lib.hasPrefix
    rw [Bool.eq_iff_iff, decide_eq_true_eq]
    by_cases h : tw isDigB l < l.length
    · rw [drop_head l _ h]
      simp only [List.isPrefixOf, Bool.and_true, beq_iff_eq, ← UInt8.toNat_inj]
      simp [h]; omega
    · rw [List.drop_of_length_le (by omega)]; simp [List.isPrefixOf, h]
  have hr : numDot l = true → numRest l = l.drop (tw isDigB l + 1) := by
    intro h
    have h' : Lib.hasPrefix (l.drop (tw isDigB l)) [46] = true := h
    unfold numRest Lib.trimPrefix
    rw [if_pos h', List.drop_drop]; rfl
  unfold numEnd numEndS numDotS
  by_cases h : numDot l = true
  · have h2 := h
    rw [hd, decide_eq_true_eq] at h2
    rw [hr h, h, decide_eq_true h2.1, decide_eq_true h2.2]
    by_cases h3 : 0 < tw isDigB (l.drop (tw isDigB l + 1))
    · rw [if_pos ⟨rfl, h3⟩, decide_eq_true h3]; rfl
    · rw [if_neg (fun hh => h3 hh.2), decide_eq_false h3]; rfl
  · have h2 : numDot l = false := by simpa using h
    have h3 := h2
    rw [hd, decide_eq_false_iff_not] at h3
    rw [if_neg (fun hh => h hh.1)]
    rw [if_neg]
    simp only [Bool.and_eq_true, decide_eq_true_eq]
    rintro ⟨h4, h5, _⟩
    exact h3 ⟨h4, h5⟩

/-- behind a run no byte of it follows -/
theorem tw_next (p : UInt8 → Bool) (l : List UInt8) (h : tw p l < l.length) : p (l.getD (tw p l) 0) = false := by
  have h1 := tw_at p l (tw p l) h (Nat.le_refl _)
  rw [getD_at _ _ _ h]
  cases hp : p l[tw p l] with
  | false => rfl
  | true => exact absurd (h1.1 hp) (Nat.lt_irrefl _)
theorem tw_next_drop (p : UInt8 → Bool) (l : List UInt8) (a : Nat) (h : a + tw p (l.drop a) < l.length) : p (l.getD (a + tw p (l.drop a)) 0) = false := by
  have h1 := tw_next p (l.drop a) (by rw [List.length_drop]; omega)
  have e : (l.drop a).getD (tw p (l.drop a)) 0 = l.getD (a + tw p (l.drop a)) 0 := by
    unfold List.getD; rw [List.getElem?_drop]
  rw [e] at h1; exact h1
theorem numEnd_next (l : List UInt8) (h : (numEndS l).2 < l.length) : isDigB (l.getD (numEndS l).2 0) = false := by
  unfold numEndS at h ⊢
  by_cases c : numDotS l = true
  · rw [if_pos c] at h ⊢
    exact tw_next_drop isDigB l (tw isDigB l + 1) h
  · rw [if_neg c] at h ⊢
    exact tw_next isDigB l h
theorem numBad_same (l : List UInt8) : (0 < tw isWordB (l.drop (numEnd l).2)) ↔ numBadS l = true := by
  rw [numEnd_same]
  unfold numBadS
  simp only [Bool.and_eq_true, decide_eq_true_eq, Bool.or_eq_true]
  by_cases h : (numEndS l).2 < l.length
  · have hn := numEnd_next l h
    rw [drop_head l _ h, tw_cons]
    have hwd : isWordB (l.getD (numEndS l).2 0) = (isLetB (l.getD (numEndS l).2 0) || isDigB (l.getD (numEndS l).2 0) || (((l.getD (numEndS l).2 0).toNat : Int) == 95)) := rfl
    rw [hn, Bool.or_false] at hwd
    have e95 : (((l.getD (numEndS l).2 0).toNat : Int) == 95) = decide ((l.getD (numEndS l).2 0).toNat = 95) := int_beq _ 95
    rw [e95] at hwd
    constructor
    · intro h1
      split at h1
      · rename_i h2
        rw [hwd] at h2
        simp only [Bool.or_eq_true, decide_eq_true_eq] at h2
        exact ⟨h, h2⟩
      · omega
    · rintro ⟨_, h2⟩
      have : isWordB (l.getD (numEndS l).2 0) = true := by
        rw [hwd]; simp only [Bool.or_eq_true, decide_eq_true_eq]; exact h2
      rw [if_pos this]; omega
  · rw [List.drop_of_length_le (by omega)]
    simp [tw, h]

theorem number_same (l : List UInt8) (hw : wlen l = 0) (hd : 0 < tw isDigB l) : readL (allRs l) = numberL l := by
  rw [wlen0_rules l hw]
  have hR : numR l = numberL l := by
    unfold numR numberL
    rw [if_neg (by omega)]
    by_cases h1 : 1 < tw isDigB l ∧ (l.getD 0 0).toNat = 48
    · rw [if_pos (Or.inl h1), if_pos h1]
    · rw [if_neg h1]
      by_cases h2 : numBadS l = true
      · rw [if_pos h2, if_pos (Or.inr ((numBad_same l).2 h2))]
      · rw [if_neg h2, if_neg (by
          rintro (h | h)
          · exact h1 h
          · exact h2 ((numBad_same l).1 h)), numEnd_same]
  have hpos : (numR l).2.2 ≠ 0 ∨ 0 < (numR l).2.1 := by
    rw [hR]
    unfold numberL
    split
    · left; simp
    split
    · left; simp
    · right
      unfold numEndS
      split
      · simp only; omega
      · exact hd
  rw [readL, if_pos hpos, hR]
end Go.Proofs.YtokdoklkaojheaaDoor

/- Plain facts on names: what the program's rules find is what the specification calls a name. No program's text stands in it. -/
import Derived.Test.YtokdoklkaojheaaDoorWs
import Derived.Lib.IndexMore
import Derived.Lib.IndexLaws
namespace Go.Proofs.YtokdoklkaojheaaDoor
open Go.RowKit

def nameR (l : List UInt8) : Bool := decide (l ≠ [] ∧ l.length ≤ 24) && isLetB (l.getD 0 0) && !kwB l && l.all isWordB
def splitA (l : List UInt8) : List UInt8 := if 0 ≤ Lib.index l [58, 58] then l.take (Lib.index l [58, 58]).toNat else []
def splitB (l : List UInt8) : List UInt8 := if 0 ≤ Lib.index l [58, 58] then l.drop ((Lib.index l [58, 58]).toNat + 2) else l
def upB (l : List UInt8) : Bool := nameR l && decide (65 ≤ (l.getD 0 0).toNat ∧ (l.getD 0 0).toNat ≤ 90)
def loB (l : List UInt8) : Bool := nameR l && decide (97 ≤ (l.getD 0 0).toNat)
def qualfd (l : List UInt8) : Bool := Lib.contains l [58, 58]
def globR (l : List UInt8) (up : Bool) : Bool := (!qualfd l || upB (splitA l)) && (if up then upB (splitB l) else loB (splitB l))
def isGlobR (l : List UInt8) : Bool := globR l true || globR l false
def isGlobP (l : List UInt8) : Bool := decide (0 < (readL (nameRs l)).2.1 ∧ (readL (nameRs l)).1 = 0 ∧ (readL (nameRs l)).2.1 = l.length)

theorem tw_len (p : UInt8 → Bool) : ∀ l : List UInt8, tw p l = l.length ↔ l.all p = true
  | [] => by simp [tw]
  | c :: l => by
    rw [tw_cons]
    cases h : p c with
    | true => simp [h, tw_len p l]
    | false => simp [h]
theorem let_word (c : UInt8) (h : isLetB c = true) : isWordB c = true := by
  unfold isLetB at h; unfold isWordB isWordZ; rw [h]; rfl
theorem twlet0 (l : List UInt8) : tw isLetB l = 0 ↔ l = [] ∨ isLetB (l.getD 0 0) = false := by
  cases l with
  | nil => simp [tw]
  | cons c l =>
    rw [tw_cons]
    cases h : isLetB c with
    | true => simp [h]
    | false => simp [h]
theorem wlen_full (l : List UInt8) (hl : l ≠ []) : wlen l = l.length ↔ isLetB (l.getD 0 0) = true ∧ l.all isWordB = true := by
  unfold wlen
  have hp : 0 < l.length := by cases l with
    | nil => exact absurd rfl hl
    | cons c l => simp
  constructor
  · intro h
    by_cases h0 : tw isLetB l = 0
    · rw [if_pos h0] at h; omega
    · rw [if_neg h0] at h
      have h1 := mt (twlet0 l).2 h0
      simp only [not_or, Bool.not_eq_false] at h1
      exact ⟨h1.2, (tw_len _ _).1 h⟩
  · rintro ⟨h1, h2⟩
    rw [if_neg (by intro h; rcases (twlet0 l).1 h with h | h
                   · exact hl h
                   · rw [h] at h1; cases h1), (tw_len _ _).2 h2]
theorem nameR_iff (l : List UInt8) : nameR l = true ↔ l ≠ [] ∧ l.length ≤ 24 ∧ wlen l = l.length ∧ kwB l = false := by
  unfold nameR
  simp only [Bool.and_eq_true, decide_eq_true_eq, Bool.not_eq_true']
  constructor
  · rintro ⟨⟨⟨⟨h1, h2⟩, h3⟩, h4⟩, h5⟩
    exact ⟨h1, h2, (wlen_full l h1).2 ⟨h3, h5⟩, h4⟩
  · rintro ⟨h1, h2, h3, h4⟩
    have := (wlen_full l h1).1 h3
    exact ⟨⟨⟨⟨h1, h2⟩, this.1⟩, h4⟩, this.2⟩

theorem letter_cases (c : UInt8) (h : isLetB c = true) : (65 ≤ c.toNat ∧ c.toNat ≤ 90) ∨ (97 ≤ c.toNat ∧ c.toNat ≤ 122) := by
  unfold isLetB isLetZ at h
  simp at h; omega
theorem nameR_head (l : List UInt8) (h : nameR l = true) : isLetB (l.getD 0 0) = true := by
  have h1 := (nameR_iff l).1 h
  exact ((wlen_full l h1.1).1 h1.2.2.1).1
theorem up_or_lo (l : List UInt8) : (upB l || loB l) = nameR l := by
  unfold upB loB
  cases h : nameR l with
  | false => rfl
  | true =>
    have := letter_cases _ (nameR_head l h)
    simp only [Bool.true_and, Bool.or_eq_true, decide_eq_true_eq]
    omega

theorem kwB_low (l : List UInt8) (h : kwB l = true) : 97 ≤ (l.getD 0 0).toNat := by
  unfold kwB at h
  simp only [Bool.or_eq_true, Bool.and_eq_true, decide_eq_true_eq] at h
  rcases h with h | ⟨h, _⟩
  · have : ∀ x ∈ kwL, 97 ≤ (x.getD 0 0).toNat := by decide +kernel
    exact this l h
  · obtain ⟨r, hr⟩ := List.isPrefixOf_iff_prefix.1 h
    rw [← hr]; simp
theorem kwB_nil : kwB [] = false := by decide +kernel
theorem isWordB_colon : isWordB 58 = false := by decide +kernel

theorem occ_head {l : List UInt8} {i : Nat} (h : Lib.occAt l [58, 58] i = true) : l[i]? = some 58 ∧ i + 2 ≤ l.length ∧ Lib.hasPrefix (l.drop i) [58, 58] = true := by
  have h' : Lib.hasPrefix (l.drop i) [58, 58] = true := h
  unfold Lib.occAt at h
  obtain ⟨r, hr⟩ := List.isPrefixOf_iff_prefix.1 h
  refine ⟨?_, ?_, h'⟩
  · have : (l.drop i)[0]? = some 58 := by rw [← hr]; rfl
    simpa using this
  · have := congrArg List.length hr
    simp at this; omega

theorem word_before {l : List UInt8} {j : Nat} (h : j < tw isWordB l) : ∃ c, l[j]? = some c ∧ isWordB c = true := by
  induction l generalizing j with
  | nil => simp [tw] at h
  | cons c l ih =>
    rw [tw_cons] at h
    split at h
    · cases j with
      | zero => exact ⟨c, rfl, by assumption⟩
      | succ j => simpa using ih (by omega)
    · omega

/-- the word before two colons -/
theorem index_of_word (l : List UInt8) (n : Nat) (hn : n ≤ tw isWordB l) (hp : Lib.hasPrefix (l.drop n) [58, 58] = true) : Lib.index l [58, 58] = n := by
  have ho : Lib.occAt l [58, 58] n = true := hp
  have hr := (occ_head ho).2.1
  refine Lib.index_hit (fun j hj => ?_) (by omega) ho
  cases hq : Lib.occAt l [58, 58] j with
  | false => rfl
  | true =>
    obtain ⟨c, hc, hw⟩ := word_before (l := l) (j := j) (by omega)
    rw [(occ_head hq).1] at hc
    cases hc
    rw [isWordB_colon] at hw; cases hw

theorem tw_take_word (l : List UInt8) (n : Nat) (hn : n ≤ tw isWordB l) : (l.take n).all isWordB = true := by
  induction l generalizing n with
  | nil => simp
  | cons c l ih =>
    cases n with
    | zero => simp
    | succ n =>
      rw [tw_cons] at hn
      split at hn
      · rename_i h; simp [h]; simpa using ih n (by omega)
      · omega
theorem getD_take (l : List UInt8) (n : Nat) (h : 0 < n) : (l.take n).getD 0 0 = l.getD 0 0 := by
  cases l with
  | nil => simp
  | cons c l => cases n with
    | zero => omega
    | succ n => simp

theorem wlen_pos {l : List UInt8} (h : 0 < wlen l) : isLetB (l.getD 0 0) = true ∧ wlen l = tw isWordB l ∧ l ≠ [] := by
  unfold wlen at h ⊢
  by_cases h0 : tw isLetB l = 0
  · rw [if_pos h0] at h; omega
  · have h1 := mt (twlet0 l).2 h0
    simp only [not_or, Bool.not_eq_false] at h1
    rw [if_neg h0]
    exact ⟨h1.2, rfl, h1.1⟩

/-- what the first rule looks at is what stands before the first two colons -/
theorem qualIn_iff (l : List UInt8) : qualIn l (wlen l) = true ↔ ∃ i : Nat, Lib.index l [58, 58] = i ∧ upB (l.take i) = true ∧ wlen l = i ∧ i + 2 ≤ l.length := by
  unfold qualIn
  simp only [Bool.and_eq_true, decide_eq_true_eq]
  constructor
  · rintro ⟨⟨h1, h2, h3⟩, h4⟩
    obtain ⟨w1, w2, w3⟩ := wlen_pos (l := l) (by omega)
    have hi := index_of_word l (wlen l) (by omega) h4
    have hr := (occ_head (i := wlen l) h4).2.1
    refine ⟨wlen l, hi, ?_, rfl, hr⟩
    have hg := getD_take l (wlen l) (by omega)
    have hlt : (l.take (wlen l)).length = wlen l := by simp; omega
    have hne : l.take (wlen l) ≠ [] := by intro h; rw [h] at hlt; simp at hlt; omega
    have hlc := letter_cases _ w1
    unfold upB
    rw [Bool.and_eq_true, decide_eq_true_eq, hg]
    refine ⟨(nameR_iff _).2 ⟨hne, by omega, ?_, ?_⟩, by omega⟩
    · exact (wlen_full _ hne).2 ⟨by rw [hg]; exact w1, tw_take_word l _ (by omega)⟩
    · cases hk : kwB (l.take (wlen l)) with
      | false => rfl
      | true => have := kwB_low _ hk; rw [hg] at this; omega
  · rintro ⟨i, h1, h2, h3, h4⟩
    unfold upB at h2
    rw [Bool.and_eq_true, decide_eq_true_eq] at h2
    obtain ⟨h5, h6⟩ := h2
    obtain ⟨n1, n2, n3, n4⟩ := (nameR_iff _).1 h5
    have hi0 : 0 < i := by
      rcases Nat.eq_zero_or_pos i with h | h
      · subst h; simp at n1
      · exact h
    rw [getD_take l i hi0] at h6
    have hl : (l.take i).length = i := by simp; omega
    rw [hl] at n2
    refine ⟨⟨by omega, by omega, by omega⟩, ?_⟩
    rcases Lib.index_spec l [58, 58] with ⟨h, _⟩ | ⟨j, h, _, ho, _⟩
    · omega
    · rw [h3]
      have : j = i := by omega
      subst this
      exact (occ_head ho).2.2

theorem up_word (l : List UInt8) (i : Nat) (h : Lib.index l [58, 58] = i) (hu : upB (l.take i) = true) : wlen l = i ∧ i + 2 ≤ l.length := by
  unfold upB at hu
  rw [Bool.and_eq_true, decide_eq_true_eq] at hu
  obtain ⟨n1, n2, n3, n4⟩ := (nameR_iff _).1 hu.1
  obtain ⟨m1, m2⟩ := (wlen_full _ n1).1 n3
  rcases Lib.index_spec l [58, 58] with ⟨h', _⟩ | ⟨j, h', _, ho, _⟩
  · omega
  · have : j = i := by omega
    subst this
    obtain ⟨o1, o2, o3⟩ := occ_head ho
    have hi0 : 0 < j := by
      rcases Nat.eq_zero_or_pos j with h | h
      · subst h; simp at n1
      · exact h
    rw [getD_take l j hi0] at m1
    refine ⟨?_, o2⟩
    have hne : l ≠ [] := by intro h; subst h; simp at o2
    have htl : tw isLetB l ≠ 0 := by
      intro h0
      rcases (twlet0 l).1 h0 with h | h
      · exact hne h
      · rw [h] at m1; cases m1
    unfold wlen
    rw [if_neg htl]
    refine tw_stop isWordB l j (by omega) (fun k hk => ?_) ?_
    · have := List.all_eq_true.1 m2 (l[k]'(by omega)) (by
        rw [List.mem_take_iff_getElem]; exact ⟨k, by omega, rfl⟩)
      exact this
    · rw [List.getElem?_eq_getElem (by omega)] at o1
      have := Option.some.inj o1
      rw [this]; exact isWordB_colon

theorem readL_two (a b : Nat × Nat × Int) : readL [a, b] = if a.2.2 ≠ 0 ∨ 0 < a.2.1 then a else if b.2.2 ≠ 0 ∨ 0 < b.2.1 then b else (0, 0, 22) := rfl

theorem kw_take (l : List UInt8) (h : wlen l = l.length) : l.take (wlen l) = l := by rw [h]; simp

theorem globP_out (l : List UInt8) (h : qualIn l (wlen l) = false) : isGlobP l = nameR l := by
  have hq : qualR l = (0, 0, 0) := by unfold qualR; rw [if_pos h]
  rw [Bool.eq_iff_iff, nameR_iff]
  unfold isGlobP nameRs
  rw [readL_two, hq, decide_eq_true_eq]
  simp only [ne_eq, not_true_eq_false, Nat.lt_irrefl, or_self, if_false]
  have hle := wlen_le l
  unfold wordR
  by_cases h1 : 24 < wlen l
  · rw [if_pos h1]; simp; omega
  · rw [if_neg h1]
    rcases Nat.eq_zero_or_pos (wlen l) with h0 | h0
    · rw [h0]
      have hk : kwB (List.take 0 l) = false := by rw [List.take_zero]; exact kwB_nil
      rw [hk]; simp
      intro h5 _ h6
      cases l with
      | nil => exact absurd rfl h5
      | cons c l => simp at h6
    · cases hk : kwB (l.take (wlen l)) with
      | true =>
        simp [h0]
        intro _ _ h5
        rw [kw_take l h5] at hk; exact hk
      | false =>
        simp [h0]
        constructor
        · intro h5
          refine ⟨by intro h; subst h; simp [wlen, tw] at h0, by omega, h5, ?_⟩
          rw [kw_take l h5] at hk; exact hk
        · rintro ⟨_, _, h5, _⟩; exact h5

theorem globP_in (l : List UInt8) (h : qualIn l (wlen l) = true) : isGlobP l = nameR (l.drop (wlen l + 2)) := by
  obtain ⟨i, hi, hu, hw, hl⟩ := (qualIn_iff l).1 h
  have hup := hu
  unfold upB at hup
  rw [Bool.and_eq_true, decide_eq_true_eq] at hup
  obtain ⟨n1, n2, n3, n4⟩ := (nameR_iff _).1 hup.1
  have hil : (l.take i).length = i := by simp; omega
  have hi0 : 0 < i := by
    rcases Nat.eq_zero_or_pos i with h | h
    · subst h; simp at n1
    · exact h
  rw [hil] at n2
  rw [Bool.eq_iff_iff, nameR_iff]
  unfold isGlobP nameRs
  rw [readL_two, decide_eq_true_eq]
  have hdl : (l.drop (wlen l + 2)).length = l.length - (wlen l + 2) := by simp
  have hwr : wordR l = (0, wlen l, 0) := by
    unfold wordR
    rw [if_neg (by omega), hw, n4]; rfl
  have hm := wlen_le (l.drop (wlen l + 2))
  have hqR : qualR l = if 24 < wlen (l.drop (wlen l + 2)) then (0, 0, 6)
      else if wlen (l.drop (wlen l + 2)) = 0 ∨ kwB ((l.drop (wlen l + 2)).take (wlen (l.drop (wlen l + 2)))) = true then (0, 0, 0)
      else (0, wlen l + 2 + wlen (l.drop (wlen l + 2)), 0) := by
    unfold qualR; rw [if_neg (by rw [h]; simp)]
  rw [hqR, hwr]
  generalize hb : l.drop (wlen l + 2) = b at *
  by_cases h1 : 24 < wlen b
  · rw [if_pos h1]; simp; omega
  · rw [if_neg h1]
    by_cases h2 : wlen b = 0 ∨ kwB (b.take (wlen b)) = true
    · rw [if_pos h2]
      simp [hw, hi0]
      constructor
      · omega
      · rintro ⟨h3, _, h4, h5⟩
        rcases h2 with h2 | h2
        · exact absurd (List.length_eq_zero_iff.1 (by omega)) h3
        · rw [kw_take b h4, h5] at h2; cases h2
    · rw [if_neg h2]
      simp only [not_or, Bool.not_eq_true] at h2
      simp only [ne_eq, not_true_eq_false, false_or]
      rw [if_pos (by omega)]
      constructor
      · rintro ⟨_, _, h3⟩
        have h4 : wlen b = b.length := by simp only at h3; omega
        refine ⟨by intro h; subst h; simp at h4; omega, by omega, h4, ?_⟩
        have := h2.2
        rw [kw_take b h4] at this; exact this
      · rintro ⟨_, _, h3, _⟩
        exact ⟨by simp only; omega, rfl, by simp only; omega⟩

theorem glob_same (l : List UInt8) : isGlobP l = isGlobR l := by
  have hR : isGlobR l = ((!qualfd l || upB (splitA l)) && nameR (splitB l)) := by
    unfold isGlobR globR
    rw [← up_or_lo]
    simp only [if_true, Bool.false_eq_true, if_false]
    cases (!qualfd l || upB (splitA l)) <;> simp
  rw [hR]
  cases hq : qualIn l (wlen l) with
  | true =>
    obtain ⟨i, hi, hu, hw, hl⟩ := (qualIn_iff l).1 hq
    have hA : splitA l = l.take i := by unfold splitA; rw [hi, if_pos (by omega)]; simp
    have hB : splitB l = l.drop (i + 2) := by unfold splitB; rw [hi, if_pos (by omega)]; simp
    rw [globP_in l hq, hA, hB, hu, hw]; simp
  | false =>
    rw [globP_out l hq]
    cases hc : qualfd l with
    | false =>
      have hneg : ¬ 0 ≤ Lib.index l [58, 58] := by
        unfold qualfd Lib.contains at hc; exact of_decide_eq_false hc
      have hB : splitB l = l := by unfold splitB; rw [if_neg hneg]
      rw [hB]; simp
    | true =>
      have hpos : 0 ≤ Lib.index l [58, 58] := by
        unfold qualfd Lib.contains at hc; exact of_decide_eq_true hc
      obtain ⟨i, hi⟩ : ∃ i : Nat, Lib.index l [58, 58] = i := ⟨(Lib.index l [58, 58]).toNat, by omega⟩
      have hA : splitA l = l.take i := by unfold splitA; rw [hi, if_pos (by omega)]; simp
      have hu : upB (splitA l) = false := by
        cases hu : upB (splitA l) with
        | false => rfl
        | true =>
          rw [hA] at hu
          obtain ⟨h1, h2⟩ := up_word l i hi hu
          rw [(qualIn_iff l).2 ⟨i, hi, hu, h1, h2⟩] at hq; cases hq
      have hn : nameR l = false := by
        cases hn : nameR l with
        | false => rfl
        | true =>
          obtain ⟨n1, _, n3, _⟩ := (nameR_iff l).1 hn
          have hall := ((wlen_full l n1).1 n3).2
          rcases Lib.index_spec l [58, 58] with ⟨h', _⟩ | ⟨j, h', _, ho, _⟩
          · omega
          · have hm := List.mem_of_getElem? (occ_head ho).1
            have := List.all_eq_true.1 hall _ hm
            rw [isWordB_colon] at this; cases this
      rw [hu, hn]; simp

theorem name_same (l : List UInt8) : (isGlobP l && !qualfd l) = nameR l := by
  rw [glob_same]
  have hR : isGlobR l = ((!qualfd l || upB (splitA l)) && nameR (splitB l)) := by
    unfold isGlobR globR
    rw [← up_or_lo]
    simp only [if_true, Bool.false_eq_true, if_false]
    cases (!qualfd l || upB (splitA l)) <;> simp
  rw [hR]
  cases hc : qualfd l with
  | false =>
    have hneg : ¬ 0 ≤ Lib.index l [58, 58] := by
      unfold qualfd Lib.contains at hc; exact of_decide_eq_false hc
    have hB : splitB l = l := by unfold splitB; rw [if_neg hneg]
    rw [hB]; simp
  | true =>
    have hpos : 0 ≤ Lib.index l [58, 58] := by
      unfold qualfd Lib.contains at hc; exact of_decide_eq_true hc
    have hn : nameR l = false := by
      cases hn : nameR l with
      | false => rfl
      | true =>
        obtain ⟨n1, _, n3, _⟩ := (nameR_iff l).1 hn
        have hall := ((wlen_full l n1).1 n3).2
        rcases Lib.index_spec l [58, 58] with ⟨h', _⟩ | ⟨j, h', _, ho, _⟩
        · omega
        · have hm := List.mem_of_getElem? (occ_head ho).1
          have := List.all_eq_true.1 hall _ hm
          rw [isWordB_colon] at this; cases this
    rw [hn]; simp
end Go.Proofs.YtokdoklkaojheaaDoor

import Derived.Test.YtokdoklkaojheaaDoorWp
namespace Go.Proofs.YtokdoklkaojheaaDoor
open Go.RowKit

theorem number_any (s : ByteArray) (kb sb : Nat) (w : World) (hs : s.size ≤ 65536) :
    Calls Tryd.prog 97 #[.agg #[.map (some kb), .map (some sb)], .string s] w fun e w' => e = .returned (rdV s (numR s.data.toList)) ∧ Below w.heap.size w w' := by
  by_cases h0 : tw isDigB s.data.toList = 0
  · rw [show numR s.data.toList = (0, 0, 0) by unfold numR; rw [if_pos h0]]
    exact num_zero s kb sb w hs h0
  · have hel := numEnd_le s.data.toList
    have hnl : tw isDigB s.data.toList ≤ s.size := by have := tw_le isDigB s.data.toList; simpa using this
    have cd := fun w => preDig s w (by omega)
    have cc := fun w => cutPrefix_any (s.extract (tw isDigB s.data.toList) s.size) ⟨#[46]⟩ w
    rw [Lib.extract_to_end, show (⟨#[46]⟩ : ByteArray).data.toList = [46] from rfl] at cc
    have hdot : Lib.hasPrefix (s.data.toList.drop (tw isDigB s.data.toList)) [46] = numDot s.data.toList := rfl
    have hrest : Lib.trimPrefix (s.data.toList.drop (tw isDigB s.data.toList)) [46] = numRest s.data.toList := rfl
    rw [hdot, hrest] at cc
    have hE : numEnd s.data.toList = if numDot s.data.toList = true ∧ 0 < tw isDigB (numRest s.data.toList) then (3, tw isDigB s.data.toList + 1 + tw isDigB (numRest s.data.toList)) else (2, tw isDigB s.data.toList) := rfl
    have hR : numR s.data.toList = if (1 < tw isDigB s.data.toList ∧ (s.data.toList.getD 0 0).toNat = 48) ∨ 0 < tw isWordB (s.data.toList.drop (numEnd s.data.toList).2) then (0, 0, 22) else ((numEnd s.data.toList).1, (numEnd s.data.toList).2, 0) := by
      unfold numR; rw [if_neg h0]
    have hrl : (numRest s.data.toList).length ≤ s.size := by unfold numRest Lib.trimPrefix; split <;> simp
    have cr : ∀ w, Calls Tryd.prog 99 #[.string ⟨(numRest s.data.toList).toArray⟩, .func (.func 114) #[] #[]] w fun e w' => e = .returned (.int .i64 (tw isDigB (numRest s.data.toList))) ∧ Below w.heap.size w w' :=
      fun w => preDig ⟨(numRest s.data.toList).toArray⟩ w (by show (numRest s.data.toList).toArray.size ≤ _; simp; omega)
    generalize hD : (⟨(numRest s.data.toList).toArray⟩ : ByteArray) = D at cc cr
    have ct := fun w => preWord (s.extract (numEnd s.data.toList).2 s.size) w (by simp; omega)
    rw [Lib.extract_to_end] at ct
    have hp0 : 0 < s.size := by omega
    have hg := getD_zero s hp0
    rw [hg] at hR
    have htl : tw isWordB (s.data.toList.drop (numEnd s.data.toList).2) ≤ s.size := by have := tw_le isWordB (s.data.toList.drop (numEnd s.data.toList).2); simp at this; omega
    rw [hR]
    obtain ⟨n, hn⟩ : ∃ n, tw isDigB s.data.toList = n := ⟨_, rfl⟩
    obtain ⟨d, hd⟩ : ∃ d, tw isDigB (numRest s.data.toList) = d := ⟨_, rfl⟩
    obtain ⟨t, ht⟩ : ∃ t, tw isWordB (s.data.toList.drop (numEnd s.data.toList).2) = t := ⟨_, rfl⟩
    rw [ht] at ct htl ⊢
    rw [hn] at cd cc hE hnl h0 ⊢
    rw [hd] at cr hE
    have h48 : (((s[0]'hp0).toNat : Int) == 48) = decide ((s[0]'hp0).toNat = 48) := by rw [Bool.eq_iff_iff]; simp; omega
    have hx : (1 < n ∧ (s[0]'hp0).toNat = 48) ∨ (n ≤ 1) ∨ (1 < n ∧ (s[0]'hp0).toNat ≠ 48) := by omega
    have hn1 : 1 ≤ n := by omega
    cases hdt : numDot s.data.toList with
    | false =>
      rw [hdt] at cc hE
      rw [if_neg (by simp)] at hE
      rw [hE] at ct hel ⊢
      rcases hx with ⟨hx1, hx2⟩ | hx1 | ⟨hx1, hx2⟩
      · rw [if_pos (Or.inl ⟨hx1, hx2⟩)]
        exact num_Ax s kb sb w hs n hn1 hnl hp0 cd D cc hx1 (by rw [h48]; simp [hx2])
      · rcases Nat.eq_zero_or_pos t with h | h
        · subst h
          rw [if_neg (by omega)]
          exact num_Az1 s kb sb w hs n hn1 hnl hp0 cd D cc hx1 ct
        · rw [if_pos (Or.inr h)]
          exact num_Ay1 s kb sb w hs n hn1 hnl hp0 cd D cc hx1 t h htl ct
      · rcases Nat.eq_zero_or_pos t with h | h
        · subst h
          rw [if_neg (by omega)]
          exact num_Az2 s kb sb w hs n hn1 hnl hp0 cd D cc hx1 (by rw [h48]; simp [hx2]) ct
        · rw [if_pos (Or.inr h)]
          exact num_Ay2 s kb sb w hs n hn1 hnl hp0 cd D cc hx1 (by rw [h48]; simp [hx2]) t h htl ct
    | true =>
      rw [hdt] at cc hE
      rcases Nat.eq_zero_or_pos d with hd0 | hd0
      · subst hd0
        rw [if_neg (by simp)] at hE
        rw [hE] at ct hel ⊢
        rcases hx with ⟨hx1, hx2⟩ | hx1 | ⟨hx1, hx2⟩
        · rw [if_pos (Or.inl ⟨hx1, hx2⟩)]
          exact num_Bx s kb sb w hs n hn1 hnl hp0 cd D cc cr hx1 (by rw [h48]; simp [hx2])
        · rcases Nat.eq_zero_or_pos t with h | h
          · subst h
            rw [if_neg (by omega)]
            exact num_Bz1 s kb sb w hs n hn1 hnl hp0 cd D cc cr hx1 ct
          · rw [if_pos (Or.inr h)]
            exact num_By1 s kb sb w hs n hn1 hnl hp0 cd D cc cr hx1 t h htl ct
        · rcases Nat.eq_zero_or_pos t with h | h
          · subst h
            rw [if_neg (by omega)]
            exact num_Bz2 s kb sb w hs n hn1 hnl hp0 cd D cc cr hx1 (by rw [h48]; simp [hx2]) ct
          · rw [if_pos (Or.inr h)]
            exact num_By2 s kb sb w hs n hn1 hnl hp0 cd D cc cr hx1 (by rw [h48]; simp [hx2]) t h htl ct
      · rw [if_pos ⟨rfl, hd0⟩] at hE
        rw [hE] at ct hel ⊢
        have hdl : n + 1 + d ≤ s.size := by simpa using hel
        rcases hx with ⟨hx1, hx2⟩ | hx1 | ⟨hx1, hx2⟩
        · rw [if_pos (Or.inl ⟨hx1, hx2⟩)]
          exact num_Cx s kb sb w hs n hn1 hnl hp0 cd D cc d (by omega) (by omega) cr hx1 (by rw [h48]; simp [hx2])
        · rcases Nat.eq_zero_or_pos t with h | h
          · subst h
            rw [if_neg (by omega)]
            exact num_Cz1 s kb sb w hs n hn1 hnl hp0 cd D cc d (by omega) (by omega) cr hx1 ct
          · rw [if_pos (Or.inr h)]
            exact num_Cy1 s kb sb w hs n hn1 hnl hp0 cd D cc d (by omega) (by omega) cr hx1 t h htl ct
        · rcases Nat.eq_zero_or_pos t with h | h
          · subst h
            rw [if_neg (by omega)]
            exact num_Cz2 s kb sb w hs n hn1 hnl hp0 cd D cc d (by omega) (by omega) cr hx1 (by rw [h48]; simp [hx2]) ct
          · rw [if_pos (Or.inr h)]
            exact num_Cy2 s kb sb w hs n hn1 hnl hp0 cd D cc d (by omega) (by omega) cr hx1 (by rw [h48]; simp [hx2]) t h htl ct
end Go.Proofs.YtokdoklkaojheaaDoor

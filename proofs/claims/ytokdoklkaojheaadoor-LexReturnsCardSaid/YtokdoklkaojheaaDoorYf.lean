import Derived.Test.YtokdoklkaojheaaDoorYe
namespace Go.Proofs.YtokdoklkaojheaaDoor
open Go.RowKit

theorem binOp_leq (t : TypeId) (a b : ByteArray) : binOp .leq t (.string a) (.string b) = pure (.bool (Op.bytesLess a.toList b.toList || a.toList == b.toList)) := by simp [binOp, Op.stringOp]
theorem lit64 : (⟨#[54, 52]⟩ : ByteArray).toList = [54, 52] := by rw [toList_eq]
theorem lit_bv : (⟨#[98, 118]⟩ : ByteArray).toList = [98, 118] := by rw [toList_eq]
theorem lit0 : (⟨#[48]⟩ : ByteArray).toList = [48] := by rw [toList_eq]

set_option maxHeartbeats 1000000 in
theorem isBits_any (s : ByteArray) (w : World) (hs : s.size ≤ 65536) :
    Calls Tryd.prog 108 #[.string s] w fun r w' => r = .returned (.bool (bitsB s.data.toList)) ∧ w = w' := by
  by_cases h0 : s.size < 3
  · have d1 : decide ((s.size : Int) < 3) = true := decide_eq_true (by omega)
    have d1' : decide (s.size < 3) = true := decide_eq_true h0
    have hv : bitsB s.data.toList = false := by
      unfold bitsB
      cases hp : Lib.hasPrefix s.data.toList [98, 118] with
      | false => rfl
      | true =>
        have hl := hasPrefix_len hp
        rw [trim_two _ hp]
        have : s.data.toList.drop 2 = [] := List.drop_of_length_le (by simp; omega)
        rw [this]; decide
    rw [hv]
    clear hv h0
    go_enter Tryd.func108, Tryd.ntmps108
    go_wp2
    go_ret
    exact ⟨rfl, rfl⟩
  · have d1 : decide ((s.size : Int) < 3) = false := decide_eq_false (by omega)
    have d1' : decide (s.size < 3) = false := decide_eq_false h0
    have hs3 : 3 ≤ s.size := by omega
    have hpre := prefix_two s (by omega)
    have hq : ((s.extract 0 2).toList == [98, 118]) = decide (s.data.toList.take 2 = [98, 118]) := by
      rw [beq_list, Lib.extract_data]; simp
    rw [← hpre] at hq
    have Hpre := Lib.hid hpre; clear hpre
    cases hp : Lib.hasPrefix s.data.toList [98, 118] with
    | false =>
      rw [hp] at hq
      have hv : bitsB s.data.toList = false := by unfold bitsB; rw [hp]; rfl
      rw [hv]
      have hq2 : ((s.extract 0 2).toList == (⟨#[98, 118]⟩ : ByteArray).toList) = false := by rw [lit_bv]; exact hq
      clear hv h0 hp Hpre
      go_enter Tryd.func108, Tryd.ntmps108
      go_wp2
      go_ret
      exact ⟨rfl, rfl⟩
    | true =>
      rw [hp] at hq
      have hq2 : ((s.extract 0 2).toList == (⟨#[98, 118]⟩ : ByteArray).toList) = true := by rw [lit_bv]; exact hq
      have hv : bitsB s.data.toList = bitsW (s.data.toList.drop 2) := by unfold bitsB; rw [hp, trim_two _ hp]; rfl
      have hDl : (s.extract 2 s.size).data.toList = s.data.toList.drop 2 := by rw [Lib.extract_to_end]
      have hDs : (s.extract 2 s.size).size = s.size - 2 := by simp
      rw [hv, ← hDl]
      have hle := fun t => binOp_leq t (s.extract 2 s.size) ⟨#[54, 52]⟩
      rw [lit64] at hle
      have c := fun w => isNumber_any (s.extract 2 s.size) 2 w (by omega) (by omega)
      have h1 := bits_bad (s.extract 2 s.size)
      have h2 := bits_one (s.extract 2 s.size)
      have h3 := bits_two (s.extract 2 s.size)
      have h4 : numOk (s.extract 2 s.size) 2 = true → (s.extract 2 s.size).size = 1 ∨ (s.extract 2 s.size).size = 2 := by
        intro h
        unfold numOk at h
        simp only [Bool.and_eq_true, decide_eq_true_eq] at h
        omega
      have hle' : ∀ t, binOp .leq t (.string (s.extract 2 s.size)) (.string ⟨#[54, 52]⟩) = pure (.bool (le64 (s.extract 2 s.size))) := hle
      clear hv hle hDl hp h0 Hpre
      have hDs' : (s.extract 2 s.size).size = 1 → s.size = 3 := by omega
      have hDs2 : (s.extract 2 s.size).size = 2 → s.size = 4 := by omega
      clear hDs
      cases hn : numOk (s.extract 2 s.size) 2 with
      | false =>
        rw [hn] at c
        rw [h1 hn]
        have C := Lib.hid c
        clear c h1 h2 h3 h4 hDs' hDs2
        go_enter Tryd.func108, Tryd.ntmps108
        go_wp2_with fail
        refine (C.out _).mono ?_; rintro e w2 ⟨rfl, rfl⟩
        go_wp2
        go_ret
        exact ⟨rfl, rfl⟩
      | true =>
        rw [hn] at c
        have C := Lib.hid c
        rcases h4 hn with h5 | h5
        · rw [h2 hn h5]
          have e3 : ((s.size : Int) == 3) = true := by rw [hDs' h5]; rfl
          have e3' : (s.size == 3) = true := by rw [hDs' h5]; rfl
          clear c h1 h2 h3 h4 hDs' hDs2 hn h5
          cases hz : ((s.extract 2 s.size).toList == [48]) with
          | true =>
            go_enter Tryd.func108, Tryd.ntmps108
            go_wp2_with fail
            refine (C.out _).mono ?_; rintro e w2 ⟨rfl, rfl⟩
            go_wp2
            go_ret
            exact ⟨rfl, rfl⟩
          | false =>
            go_enter Tryd.func108, Tryd.ntmps108
            go_wp2_with fail
            refine (C.out _).mono ?_; rintro e w2 ⟨rfl, rfl⟩
            go_wp2
            go_ret
            exact ⟨rfl, rfl⟩
        · have h6 := h3 hn h5
          rw [h6.1]
          have hz := h6.2
          have e3 : ((s.size : Int) == 3) = false := by rw [hDs2 h5]; rfl
          have e3' : (s.size == 3) = false := by rw [hDs2 h5]; rfl
          clear c h1 h2 h3 h4 hDs' hDs2 hn h5 h6
          go_enter Tryd.func108, Tryd.ntmps108
          go_wp2_with fail
          refine (C.out _).mono ?_; rintro e w2 ⟨rfl, rfl⟩
          go_wp2
          go_ret
          exact ⟨rfl, rfl⟩
end Go.Proofs.YtokdoklkaojheaaDoor

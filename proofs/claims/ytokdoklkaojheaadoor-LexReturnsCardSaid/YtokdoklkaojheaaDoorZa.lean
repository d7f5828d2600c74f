import Derived.Test.YtokdoklkaojheaaDoorYk
namespace Go.Proofs.YtokdoklkaojheaaDoor
open Go.RowKit

/-! the specification's tokens: words, digits, blanks -/
theorem tw_at (p : UInt8 → Bool) : ∀ (l : List UInt8) (k : Nat) (h : k < l.length), k ≤ tw p l → (p l[k] = true ↔ k < tw p l)
  | [], k, h, _ => by simp at h
  | c :: l, 0, h, _ => by
    rw [tw_cons]; cases hc : p c <;> simp [hc]
  | c :: l, k + 1, h, hk => by
    rw [tw_cons] at hk ⊢
    split at hk
    · rename_i hc
      rw [if_pos hc]
      have := tw_at p l k (by simpa using h) (by omega)
      simp only [List.getElem_cons_succ]
      rw [this]; omega
    · omega
theorem tw_byte (p : UInt8 → Bool) (s : ByteArray) (k : Nat) (h : k < s.size) (hk : k ≤ tw p s.data.toList) : p (s[k]'h) = decide (k < tw p s.data.toList) := by
  have := tw_at p s.data.toList k (by simpa using h) hk
  rw [Bool.eq_iff_iff, decide_eq_true_eq, ← this]; rfl
theorem tw_size (p : UInt8 → Bool) (s : ByteArray) : tw p s.data.toList ≤ s.size := by
  have := tw_le p s.data.toList; simpa using this
theorem wlen_size (s : ByteArray) : wlen s.data.toList ≤ s.size := by
  have := wlen_le s.data.toList; simpa using this

set_option maxHeartbeats 1000000 in
theorem refDigits_any (s : ByteArray) (w : World) (hs : s.size ≤ 65536) :
    Calls Tryd.prog 96 #[.string s] w fun e w' => e = .returned (.int .i64 (tw isDigB s.data.toList)) ∧ w = w' := by
  have hz := tw_size isDigB s
  have hb := tw_byte isDigB s
  obtain ⟨N, hN⟩ : ∃ N, tw isDigB s.data.toList = N := ⟨_, rfl⟩
  rw [hN] at hz hb ⊢
  have Hb := Lib.hid hb; clear hb hN
  go_enter Tryd.func96, Tryd.ntmps96
  go_wp2
  go_loop [3] (fun i => ∃ k : Nat, k ≤ N ∧ i = .int .i64 k) (fun i => N - (intOf i).toNat)
  case atStart => exact ⟨0, Nat.zero_le _, rfl⟩
  case round =>
    obtain ⟨k, hk, rfl⟩ := hrel
    by_cases hlt : k < s.size
    · have hd := refDigit_any ((s[k]'hlt).toNat : Int)
      have hv : isDigZ ((s[k]'hlt).toNat : Int) = decide (k < N) := Hb.out k hlt hk
      rw [hv] at hd
      clear hv
      by_cases hkN : k < N
      · rw [decide_eq_true hkN] at hd
        have Hd := Lib.hid hd; clear hd
        go_wp2_with fail
        refine (Hd.out _).mono ?_; rintro e w2 ⟨rfl, rfl⟩
        go_wp2
        go_round
        case rel => exact ⟨k + 1, by omega, by go_num⟩
        case measure => simp [intOf]; omega
      · rw [decide_eq_false hkN] at hd
        have Hd := Lib.hid hd; clear hd
        have hkN' : k = N := by omega
        subst hkN'
        go_wp2_with fail
        refine (Hd.out _).mono ?_; rintro e w2 ⟨rfl, rfl⟩
        go_wp2
        go_ret
        exact ⟨rfl, rfl⟩
    · have hkN' : k = N := by omega
      subst hkN'
      go_wp2
      go_ret
      exact ⟨rfl, rfl⟩

/-- a word goes on -/
def goesOn (s : ByteArray) (k : Nat) (h : k < s.size) : Bool := isLetZ ((s[k]'h).toNat : Int) || (decide (0 < k) && (isDigZ ((s[k]'h).toNat : Int) || ((s[k]'h).toNat : Int) == 95))
theorem goesOn_iff (s : ByteArray) (k : Nat) (h : k < s.size) (hk : k ≤ wlen s.data.toList) : goesOn s k h = decide (k < wlen s.data.toList) := by
  unfold goesOn
  rcases Nat.eq_zero_or_pos k with h0 | h0
  · subst h0
    simp only [Nat.lt_irrefl, decide_false, Bool.false_and, Bool.or_false]
    have hg : isLetZ ((s[0]'h).toNat : Int) = isLetB (s.data.toList.getD 0 0) := by unfold isLetB; rw [getD_zero s h]
    rw [hg, Bool.eq_iff_iff, decide_eq_true_eq]
    constructor
    · intro hl
      unfold wlen
      have hne : s.data.toList ≠ [] := by
        intro e
        have h9 : s.data.toList.length = s.size := by simp
        rw [e] at h9
        simp only [List.length_nil] at h9
        omega
      have h1 : tw isLetB s.data.toList ≠ 0 := by
        intro h0
        rcases (twlet0 _).1 h0 with h2 | h2
        · exact hne h2
        · rw [h2] at hl; cases hl
      rw [if_neg h1]
      have h3 := (tw_at isWordB s.data.toList 0 (by simpa using h) (Nat.zero_le _)).1 (by
        apply let_word
        rw [getD_at _ _ _ (by simpa using h)] at hl; exact hl)
      exact h3
    · intro hw
      exact (wlen_pos hw).1
  · rw [decide_eq_true h0, Bool.true_and]
    have hw := (wlen_pos (l := s.data.toList) (by omega)).2.1
    have := tw_byte isWordB s k h (by omega)
    rw [hw, ← this]
    show _ = (isLetZ _ || isDigZ _ || _ == 95)
    rw [Bool.or_assoc]

set_option maxHeartbeats 2000000 in
theorem refWord_any (s : ByteArray) (w : World) (hs : s.size ≤ 65536) :
    Calls Tryd.prog 66 #[.string s] w fun e w' => e = .returned (.int .i64 (wlen s.data.toList)) ∧ w = w' := by
  have hz := wlen_size s
  have hb := goesOn_iff s
  obtain ⟨N, hN⟩ : ∃ N, wlen s.data.toList = N := ⟨_, rfl⟩
  rw [hN] at hz hb ⊢
  have Hb := Lib.hid hb; clear hb hN
  go_enter Tryd.func66, Tryd.ntmps66
  go_wp2
  go_loop [3] (fun i => ∃ k : Nat, k ≤ N ∧ i = .int .i64 k) (fun i => N - (intOf i).toNat)
  case atStart => exact ⟨0, Nat.zero_le _, rfl⟩
  case round =>
    obtain ⟨k, hk, rfl⟩ := hrel
    by_cases hlt : k < s.size
    · have hd := refDigit_any ((s[k]'hlt).toNat : Int)
      have hl := refLetter_any ((s[k]'hlt).toNat : Int)
      have hv := Hb.out k hlt hk
      unfold goesOn at hv
      cases hb1 : isLetZ ((s[k]'hlt).toNat : Int) with
      | true =>
        rw [hb1] at hl hv
        have hkN : k < N := of_decide_eq_true (by rw [← hv]; rfl)
        have Hl := Lib.hid hl; clear hl hd hv hb1
        go_wp2_with fail
        refine (Hl.out _).mono ?_; rintro e w2 ⟨rfl, rfl⟩
        go_wp2
        go_round
        case rel => exact ⟨k + 1, by omega, by go_num⟩
        case measure => simp [intOf]; omega
      | false =>
        rw [hb1] at hl hv
        have Hl := Lib.hid hl; clear hl hb1
        by_cases hk0 : 0 < k
        · have d0 : decide ((0 : Int) < k) = true := decide_eq_true (by omega)
          have d0' : decide (0 < k) = true := decide_eq_true hk0
          rw [d0'] at hv
          cases hb2 : isDigZ ((s[k]'hlt).toNat : Int) with
          | true =>
            rw [hb2] at hd hv
            have hkN : k < N := of_decide_eq_true (by rw [← hv]; rfl)
            have Hd := Lib.hid hd; clear hd hv hb2
            go_wp2_with fail
            refine (Hl.out _).mono ?_; rintro e w2 ⟨rfl, rfl⟩
            go_wp2_with fail
            refine (Hd.out _).mono ?_; rintro e w2 ⟨rfl, rfl⟩
            go_wp2
            go_round
            case rel => exact ⟨k + 1, by omega, by go_num⟩
            case measure => simp [intOf]; omega
          | false =>
            rw [hb2] at hd hv
            have Hd := Lib.hid hd; clear hd hb2
            cases hb3 : (((s[k]'hlt).toNat : Int) == 95) with
            | true =>
              rw [hb3] at hv
              have hkN : k < N := of_decide_eq_true (by rw [← hv]; rfl)
              clear hv
              go_wp2_with fail
              refine (Hl.out _).mono ?_; rintro e w2 ⟨rfl, rfl⟩
              go_wp2_with fail
              refine (Hd.out _).mono ?_; rintro e w2 ⟨rfl, rfl⟩
              go_wp2
              go_round
              case rel => exact ⟨k + 1, by omega, by go_num⟩
              case measure => simp [intOf]; omega
            | false =>
              rw [hb3] at hv
              have hkN : ¬ k < N := of_decide_eq_false (by rw [← hv]; rfl)
              have hkN' : k = N := by omega
              subst hkN'
              clear hv
              go_wp2_with fail
              refine (Hl.out _).mono ?_; rintro e w2 ⟨rfl, rfl⟩
              go_wp2_with fail
              refine (Hd.out _).mono ?_; rintro e w2 ⟨rfl, rfl⟩
              go_wp2
              go_ret
              exact ⟨rfl, rfl⟩
        · have hk00 : k = 0 := by omega
          subst hk00
          have hkN : ¬ 0 < N := of_decide_eq_false (by rw [← hv]; rfl)
          have hN0 : N = 0 := by omega
          subst hN0
          clear hv hd
          go_wp2_with fail
          refine (Hl.out _).mono ?_; rintro e w2 ⟨rfl, rfl⟩
          go_wp2
          go_ret
          exact ⟨rfl, rfl⟩
    · have hkN' : k = N := by omega
      subst hkN'
      go_wp2
      go_ret
      exact ⟨rfl, rfl⟩
end Go.Proofs.YtokdoklkaojheaaDoor

import Derived.Test.YtokdoklkaojheaaDoorYf
namespace Go.Proofs.YtokdoklkaojheaaDoor
open Go.RowKit

theorem kwB_or (s : ByteArray) : kwB s.data.toList = (hasW kwRB s || bitsB s.data.toList) := by
  rw [kw_list]; rfl

theorem refKeyword_any (s : ByteArray) (w : World) (hs : s.size ≤ 65536) :
    Calls Tryd.prog 82 #[.string s] w fun r w' => r = .returned (.bool (kwB s.data.toList)) ∧ Below w.heap.size w w' := by
  rw [kwB_or]
  have ch := hasWord_any w.heap.size kwRB 57 57 s (w.alloc (.cells (kwRB.map Value.string).toArray 9)) rfl (by omega) (strs_new w kwRB 9)
  have cb := fun w => isBits_any s w hs
  have Cb := Lib.hid cb; clear cb
  cases hh : hasW kwRB s with
  | true =>
    rw [hh] at ch
    have Ch := Lib.hid ch; clear ch hh
    go_enter Tryd.func82, Tryd.ntmps82
    go_wp2_with fail
    refine (keywords_any _).mono ?_; rintro e w1 ⟨rfl, rfl⟩
    go_wp2_with fail
    refine Ch.out.mono ?_; rintro e w2 ⟨rfl, rfl⟩
    go_wp2
    go_ret
    exact ⟨rfl, (Below.refl _ _).alloc (Nat.le_refl _) _⟩
  | false =>
    rw [hh] at ch
    have Ch := Lib.hid ch; clear ch hh
    go_enter Tryd.func82, Tryd.ntmps82
    go_wp2_with fail
    refine (keywords_any _).mono ?_; rintro e w1 ⟨rfl, rfl⟩
    go_wp2_with fail
    refine Ch.out.mono ?_; rintro e w2 ⟨rfl, rfl⟩
    go_wp2_with fail
    refine (Cb.out _).mono ?_; rintro e w3 ⟨rfl, rfl⟩
    go_wp2
    go_ret
    exact ⟨by simp, (Below.refl _ _).alloc (Nat.le_refl _) _⟩

theorem nameR_cases (s : ByteArray) (h0 : s.size ≠ 0) (h1 : s.size ≤ 24) : nameR s.data.toList = (isLetB (s.data.toList.getD 0 0) && !kwB s.data.toList && allFrom isWordB s 0) := by
  unfold nameR allFrom
  have hl : s.data.toList.length = s.size := by simp
  rw [decide_eq_true ⟨by intro h; rw [h] at hl; simp at hl; omega, by omega⟩, List.drop_zero, Bool.true_and]
theorem nameR_none (s : ByteArray) (h : s.size = 0 ∨ 24 < s.size) : nameR s.data.toList = false := by
  unfold nameR
  have hl : s.data.toList.length = s.size := by simp
  rw [decide_eq_false (by
    rintro ⟨h1, h2⟩
    rcases h with h | h
    · exact h1 (List.length_eq_zero_iff.1 (by omega))
    · omega)]
  rfl

set_option maxHeartbeats 2000000 in
theorem refName_any (s : ByteArray) (w : World) (hs : s.size ≤ 65536) :
    Calls Tryd.prog 45 #[.string s] w fun r w' => r = .returned (.bool (nameR s.data.toList)) ∧ Below w.heap.size w w' := by
  by_cases h0 : s.size = 0
  · have he : (s.toList == []) = true := by rw [empty_beq]; simp [h0]
    rw [nameR_none s (Or.inl h0)]
    clear h0
    go_enter Tryd.func45, Tryd.ntmps45
    go_wp2
    go_ret
    exact ⟨rfl, Below.refl _ _⟩
  · have he : (s.toList == []) = false := by rw [empty_beq]; simp [h0]
    by_cases h1 : 24 < s.size
    · have d1 : decide ((24 : Int) < s.size) = true := decide_eq_true (by omega)
      have d1' : decide (24 < s.size) = true := decide_eq_true h1
      rw [nameR_none s (Or.inr h1)]
      clear h0 h1
      go_enter Tryd.func45, Tryd.ntmps45
      go_wp2
      go_ret
      exact ⟨rfl, Below.refl _ _⟩
    · have d1 : decide ((24 : Int) < s.size) = false := decide_eq_false (by omega)
      have d1' : decide (24 < s.size) = false := decide_eq_false h1
      have hp0 : 0 < s.size := by omega
      rw [nameR_cases s h0 (by omega)]
      have hg : isLetB (s.data.toList.getD 0 0) = isLetZ ((s[0]'hp0).toNat : Int) := by unfold isLetB; rw [getD_zero s hp0]
      rw [hg]
      have cl := fun w => refLetter_any ((s[0]'hp0).toNat : Int) w
      have ck := fun w => refKeyword_any s w hs
      clear h0 h1 hg
      cases hl : isLetZ ((s[0]'hp0).toNat : Int) with
      | false =>
        rw [hl] at cl
        have Cl := Lib.hid cl; clear cl hl ck
        go_enter Tryd.func45, Tryd.ntmps45
        go_wp2_with fail
        refine (Cl.out _).mono ?_; rintro e w1 ⟨rfl, rfl⟩
        go_wp2
        go_ret
        exact ⟨rfl, Below.refl _ _⟩
      | true =>
        rw [hl] at cl
        have Cl := Lib.hid cl; clear cl hl
        cases hk : kwB s.data.toList with
        | true =>
          rw [hk] at ck
          have Ck := Lib.hid ck; clear ck hk
          go_enter Tryd.func45, Tryd.ntmps45
          go_wp2_with fail
          refine (Cl.out _).mono ?_; rintro e w1 ⟨rfl, rfl⟩
          go_wp2_with fail
          refine (Ck.out _).mono ?_; rintro e w1 ⟨rfl, hb⟩
          have Hb := Lib.hid hb; clear hb
          go_wp2
          go_ret
          exact ⟨rfl, Hb.out⟩
        | false =>
          rw [hk] at ck
          have Ck := Lib.hid ck; clear ck hk
          go_enter Tryd.func45, Tryd.ntmps45
          go_wp2_with fail
          refine (Cl.out _).mono ?_; rintro e w1 ⟨rfl, rfl⟩
          go_wp2_with fail
          refine (Ck.out _).mono ?_; rintro e w1 ⟨rfl, hb⟩
          have Hb := Lib.hid hb; clear hb
          go_wp2
          go_loop [3] (fun i => ∃ k : Nat, k ≤ s.size ∧ i = .int .i64 k ∧ allFrom isWordB s 0 = allFrom isWordB s k) (fun i => s.size - (intOf i).toNat)
          case atStart => exact ⟨0, Nat.zero_le _, rfl, rfl⟩
          case round =>
            obtain ⟨k, hk, rfl, hr⟩ := hrel
            have Hr := Lib.hid hr; clear hr
            by_cases hlt : k < s.size
            · have hd := refDigit_any ((s[k]'hlt).toNat : Int)
              have hl := refLetter_any ((s[k]'hlt).toNat : Int)
              have hwd : isWordB (s[k]'hlt) = (isLetZ ((s[k]'hlt).toNat : Int) || isDigZ ((s[k]'hlt).toNat : Int) || ((s[k]'hlt).toNat : Int) == 95) := rfl
              cases hb : isLetZ ((s[k]'hlt).toNat : Int) with
              | true =>
                rw [hb] at hl
                have hst := Hr.out.trans (all_step s k hlt (by rw [hwd, hb]; rfl))
                have Hst := Lib.hid hst; clear hst hb hwd hd
                have Hl := Lib.hid hl; clear hl
                go_wp2_with fail
                refine (Hl.out _).mono ?_; rintro e w2 ⟨rfl, rfl⟩
                go_wp2
                go_round
                case rel => exact ⟨k + 1, by omega, by go_num, Hst.out⟩
                case measure => simp [intOf]; omega
              | false =>
                rw [hb] at hl
                have Hl := Lib.hid hl; clear hl
                cases hc : isDigZ ((s[k]'hlt).toNat : Int) with
                | true =>
                  rw [hc] at hd
                  have hst := Hr.out.trans (all_step s k hlt (by rw [hwd, hb, hc]; rfl))
                  have Hst := Lib.hid hst; clear hst hb hc hwd
                  have Hd := Lib.hid hd; clear hd
                  go_wp2_with fail
                  refine (Hl.out _).mono ?_; rintro e w2 ⟨rfl, rfl⟩
                  go_wp2_with fail
                  refine (Hd.out _).mono ?_; rintro e w2 ⟨rfl, rfl⟩
                  go_wp2
                  go_round
                  case rel => exact ⟨k + 1, by omega, by go_num, Hst.out⟩
                  case measure => simp [intOf]; omega
                | false =>
                  rw [hc] at hd
                  have Hd := Lib.hid hd; clear hd
                  cases hu : (((s[k]'hlt).toNat : Int) == 95) with
                  | true =>
                    have hst := Hr.out.trans (all_step s k hlt (by rw [hwd, hb, hc, hu]; rfl))
                    have Hst := Lib.hid hst; clear hst hb hc hwd
                    go_wp2_with fail
                    refine (Hl.out _).mono ?_; rintro e w2 ⟨rfl, rfl⟩
                    go_wp2_with fail
                    refine (Hd.out _).mono ?_; rintro e w2 ⟨rfl, rfl⟩
                    go_wp2
                    go_round
                    case rel => exact ⟨k + 1, by omega, by go_num, Hst.out⟩
                    case measure => simp [intOf]; omega
                  | false =>
                    have hst := Hr.out.trans (all_stop s k hlt (by rw [hwd, hb, hc, hu]; rfl))
                    have Hst := Lib.hid hst; clear hst hb hc hwd
                    go_wp2_with fail
                    refine (Hl.out _).mono ?_; rintro e w2 ⟨rfl, rfl⟩
                    go_wp2_with fail
                    refine (Hd.out _).mono ?_; rintro e w2 ⟨rfl, rfl⟩
                    go_wp2
                    go_ret
                    exact ⟨by rw [Hst.out]; rfl, Hb.out⟩
            · have hst := Hr.out.trans (all_end s k hlt)
              have Hst := Lib.hid hst; clear hst
              go_wp2
              go_ret
              exact ⟨by rw [Hst.out]; rfl, Hb.out⟩
end Go.Proofs.YtokdoklkaojheaaDoor

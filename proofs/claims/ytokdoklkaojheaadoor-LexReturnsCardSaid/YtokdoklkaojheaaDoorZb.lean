import Derived.Test.YtokdoklkaojheaaDoorZa
namespace Go.Proofs.YtokdoklkaojheaaDoor
open Go.RowKit

/-- the space or comment at the beginning of a text: its length; -1 for a comment without an end -/
def blankL (l : List UInt8) : Int :=
  if l.length = 0 then 0 else if isSpB (l.getD 0 0) = true then 1 else if l.length < 2 ∨ (l.getD 0 0).toNat ≠ 47 then 0
  else if (l.getD 1 0).toNat = 47 then ((2 + tw notNlB (l.drop 2) : Nat) : Int) else if (l.getD 1 0).toNat ≠ 42 then 0
  else if Lib.index (l.drop 2) [42, 47] < 0 then -1 else Lib.index (l.drop 2) [42, 47] + 4

theorem getD_one (s : ByteArray) (h : 1 < s.size) : (s.data.toList.getD 1 0).toNat = (s[1]'h).toNat := by
  rw [getD_at _ _ _ (by simpa using h)]; rfl
theorem list_size (s : ByteArray) : s.data.toList.length = s.size := by simp

theorem notNl_byte (s : ByteArray) (k : Nat) (h2 : 2 ≤ k) (h : k < s.size) (hk : k ≤ 2 + tw notNlB (s.data.toList.drop 2)) : (((s[k]'h).toNat : Int) != 10) = decide (k < 2 + tw notNlB (s.data.toList.drop 2)) := by
  obtain ⟨j, rfl⟩ : ∃ j, k = 2 + j := ⟨k - 2, by omega⟩
  have hl := list_size s
  have := tw_at notNlB (s.data.toList.drop 2) j (by rw [List.length_drop]; omega) (by omega)
  rw [List.getElem_drop] at this
  rw [Bool.eq_iff_iff, decide_eq_true_eq]
  have e : (((s[2 + j]'h).toNat : Int) != 10) = notNlB (s.data.toList[2 + j]'(by omega)) := rfl
  rw [e, this]; omega
theorem occ_two (s : ByteArray) (k : Nat) (h2 : 2 ≤ k) (h : k + 1 < s.size) : Lib.occAt (s.data.toList.drop 2) [42, 47] (k - 2) = ((((s[k]'(by omega)).toNat : Int) == 42) && (((s[k + 1]'h).toNat : Int) == 47)) := by
  unfold Lib.occAt
  have hl : s.data.toList.length = s.size := by simp
  rw [List.drop_drop, show 2 + (k - 2) = k by omega]
  rw [List.drop_eq_getElem_cons (by omega : k < s.data.toList.length), List.drop_eq_getElem_cons (by omega : k + 1 < s.data.toList.length)]
  rw [show s.data.toList[k]'(by omega) = s[k]'(by omega) from rfl, show s.data.toList[k + 1]'(by omega) = s[k + 1]'h from rfl]
  generalize s[k]'(by omega) = a
  generalize s[k + 1]'h = b
  simp only [List.isPrefixOf, Bool.and_true]
  rw [Bool.eq_iff_iff]
  simp only [Bool.and_eq_true, beq_iff_eq, ← UInt8.toNat_inj, UInt8.toNat_ofNat]
  simp; omega

theorem int_beq (c n : Nat) : (((c : Int)) == (n : Int)) = decide (c = n) := by
  rw [Bool.eq_iff_iff, decide_eq_true_eq, beq_iff_eq]; omega

set_option maxHeartbeats 2000000 in
theorem refBlank_any (s : ByteArray) (w : World) (hs : s.size ≤ 65536) :
    Calls Tryd.prog 33 #[.string s] w fun e w' => e = .returned (.int .i64 (blankL s.data.toList)) ∧ w = w' := by
  have hl := list_size s
  by_cases h0 : s.size = 0
  · have he : (s.toList == []) = true := by rw [empty_beq]; simp [h0]
    have hv : blankL s.data.toList = 0 := by unfold blankL; rw [if_pos (by omega)]
    rw [hv]
    clear hv h0 hl
    go_enter Tryd.func33, Tryd.ntmps33
    go_wp2
    go_ret
    exact ⟨rfl, rfl⟩
  · have he : (s.toList == []) = false := by rw [empty_beq]; simp [h0]
    have hp0 : 0 < s.size := by omega
    have hg := getD_zero s hp0
    have hsp : isSpB (s.data.toList.getD 0 0) = isSpZ ((s[0]'hp0).toNat : Int) := by unfold isSpB; rw [hg]
    cases hb : isSpZ ((s[0]'hp0).toNat : Int) with
    | true =>
      have hv : blankL s.data.toList = 1 := by unfold blankL; rw [if_neg (by omega), if_pos (by rw [hsp, hb])]
      rw [hv]
      unfold isSpZ at hb
      clear hv hsp hg hl h0
      have h1 : (((s[0]'hp0).toNat : Int) == 32) = true ∨ (((s[0]'hp0).toNat : Int) == 32) = false := by cases (((s[0]'hp0).toNat : Int) == 32) <;> simp
      have h2 : (((s[0]'hp0).toNat : Int) == 9) = true ∨ (((s[0]'hp0).toNat : Int) == 9) = false := by cases (((s[0]'hp0).toNat : Int) == 9) <;> simp
      have h3 : (((s[0]'hp0).toNat : Int) == 10) = true ∨ (((s[0]'hp0).toNat : Int) == 10) = false := by cases (((s[0]'hp0).toNat : Int) == 10) <;> simp
      rcases h1 with h1 | h1
      · clear h2 h3 hb
        go_enter Tryd.func33, Tryd.ntmps33
        go_wp2
        go_ret
        exact ⟨rfl, rfl⟩
      · rcases h2 with h2 | h2
        · clear h3 hb
          go_enter Tryd.func33, Tryd.ntmps33
          go_wp2
          go_ret
          exact ⟨rfl, rfl⟩
        · rcases h3 with h3 | h3
          · clear hb
            go_enter Tryd.func33, Tryd.ntmps33
            go_wp2
            go_ret
            exact ⟨rfl, rfl⟩
          · rw [h1, h2, h3] at hb
            have h4 : (((s[0]'hp0).toNat : Int) == 13) = true := by simpa using hb
            clear hb
            go_enter Tryd.func33, Tryd.ntmps33
            go_wp2
            go_ret
            exact ⟨rfl, rfl⟩
    | false =>
      have hV : blankL s.data.toList = if s.data.toList.length < 2 ∨ (s.data.toList.getD 0 0).toNat ≠ 47 then 0
          else if (s.data.toList.getD 1 0).toNat = 47 then ((2 + tw notNlB (s.data.toList.drop 2) : Nat) : Int) else if (s.data.toList.getD 1 0).toNat ≠ 42 then 0
          else if Lib.index (s.data.toList.drop 2) [42, 47] < 0 then -1 else Lib.index (s.data.toList.drop 2) [42, 47] + 4 := by
        unfold blankL; rw [if_neg (by omega), if_neg (by rw [hsp, hb]; simp)]
      unfold isSpZ at hb
      simp only [Bool.or_eq_false_iff] at hb
      obtain ⟨⟨⟨b1, b2⟩, b3⟩, b4⟩ := hb
      rw [hg, hl] at hV
      clear hsp hg h0
      by_cases h2 : s.size < 2
      · have d2 : decide ((s.size : Int) < 2) = true := decide_eq_true (by omega)
        have d2' : decide (s.size < 2) = true := decide_eq_true h2
        rw [hV, if_pos (Or.inl h2)]
        clear hV h2 hl
        go_enter Tryd.func33, Tryd.ntmps33
        go_wp2
        go_ret
        exact ⟨rfl, rfl⟩
      · have d2 : decide ((s.size : Int) < 2) = false := decide_eq_false (by omega)
        have d2' : decide (s.size < 2) = false := decide_eq_false h2
        have hp1 : 1 < s.size := by omega
        rw [getD_one s hp1] at hV
        by_cases h47 : (s[0]'hp0).toNat = 47
        · have e1 : (((s[0]'hp0).toNat : Int) != 47) = false := by rw [h47]; rfl
          rw [if_neg (by omega)] at hV
          by_cases hs1 : (s[1]'hp1).toNat = 47
          · have e2 : (((s[1]'hp1).toNat : Int) == 47) = true := by rw [hs1]; rfl
            rw [if_pos hs1] at hV
            rw [hV]
            have hT : 2 + tw notNlB (s.data.toList.drop 2) ≤ s.size := by have := tw_le notNlB (s.data.toList.drop 2); rw [List.length_drop] at this; omega
            have hnb := fun k => notNl_byte s k
            generalize tw notNlB (s.data.toList.drop 2) = T at *
            have Hnb := Lib.hid hnb
            clear hnb hV h2 hl h47 hs1
            go_enter Tryd.func33, Tryd.ntmps33
            go_wp2
            go_loop [3] (fun i => ∃ k : Nat, 2 ≤ k ∧ k ≤ 2 + T ∧ i = .int .i64 k) (fun i => 2 + T - (intOf i).toNat)
            case atStart => exact ⟨2, by omega, by omega, rfl⟩
            case round =>
              obtain ⟨k, hk2, hk, rfl⟩ := hrel
              by_cases hlt : k < s.size
              · have hv := Hnb.out k hk2 hlt hk
                by_cases hkN : k < 2 + T
                · rw [decide_eq_true hkN] at hv
                  go_wp2
                  go_round
                  case rel => exact ⟨k + 1, by omega, by omega, by go_num⟩
                  case measure => simp [intOf]; omega
                · rw [decide_eq_false hkN] at hv
                  have hkN' : k = 2 + T := by omega
                  subst hkN'
                  go_wp2
                  go_ret
                  exact ⟨rfl, rfl⟩
              · have hkN' : k = 2 + T := by omega
                subst hkN'
                go_wp2
                go_ret
                exact ⟨rfl, rfl⟩
          · have e2 : (((s[1]'hp1).toNat : Int) == 47) = false := by simp; omega
            rw [if_neg hs1] at hV
            by_cases hs42 : (s[1]'hp1).toNat = 42
            · have e3 : (((s[1]'hp1).toNat : Int) != 42) = false := by rw [hs42]; rfl
              rw [if_neg (by omega)] at hV
              have hocc := fun k => occ_two s k
              have hld : (s.data.toList.drop 2).length = s.size - 2 := by rw [List.length_drop, hl]
              rw [hV]
              generalize s.data.toList.drop 2 = D at *
              obtain ⟨B, hB⟩ : ∃ B : Int, (if Lib.index D [42, 47] < 0 then -1 else Lib.index D [42, 47] + 4) = B := ⟨_, rfl⟩
              rw [hB]
              have HB := Lib.hid hB; clear hB
              have Hocc := Lib.hid hocc; have Hld := Lib.hid hld
              clear hocc hld hV h2 hl h47 hs1 hs42
              go_enter Tryd.func33, Tryd.ntmps33
              go_wp2
              go_loop [4] (fun i => ∃ k : Nat, 2 ≤ k ∧ k ≤ s.size ∧ i = .int .i64 k ∧ Lib.NoOcc D [42, 47] (k - 2)) (fun i => s.size - (intOf i).toNat)
              case atStart => exact ⟨2, by omega, by omega, rfl, Lib.NoOcc.zero _ _⟩
              case round =>
                obtain ⟨k, hk2, hk, rfl, hr⟩ := hrel
                have Hr := Lib.hid hr; clear hr
                by_cases hlt : k + 1 < s.size
                · have hk1 : k < s.size := by omega
                  have ho := Hocc.out k hk2 hlt
                  have hadd : ((k : Int) + 1).toNat = k + 1 := by omega
                  cases h1 : (((s[k]'hk1).toNat : Int) == 42) with
                  | false =>
                    rw [h1] at ho
                    have hst := Hr.out.succ ho
                    rw [show k - 2 + 1 = k + 1 - 2 by omega] at hst
                    have Hst := Lib.hid hst; clear hst ho
                    go_wp2
                    go_round
                    case rel => exact ⟨k + 1, by omega, by omega, by go_num, Hst.out⟩
                    case measure => simp [intOf]; omega
                  | true =>
                    rw [h1] at ho
                    cases h3 : (((s[k + 1]'hlt).toNat : Int) == 47) with
                    | false =>
                      rw [h3] at ho
                      have hst := Hr.out.succ ho
                      rw [show k - 2 + 1 = k + 1 - 2 by omega] at hst
                      have Hst := Lib.hid hst; clear hst ho
                      go_wp2
                      go_round
                      case rel => exact ⟨k + 1, by omega, by omega, by go_num, Hst.out⟩
                      case measure => simp [intOf]; omega
                    | true =>
                      rw [h3] at ho
                      have hi := Lib.index_hit Hr.out (by have := Hld.out; omega) ho
                      have hv : B = (k : Int) + 2 := by rw [← HB.out, hi, if_neg (by omega)]; omega
                      have Hv := Lib.hid hv
                      clear hi ho hv
                      go_wp2
                      go_ret
                      exact ⟨ret_int Hv.out.symm, rfl⟩
                · have hi := Lib.index_past (s := D) (sub := [42, 47]) (by simp) Hr.out (by have := Hld.out; simp; omega)
                  have hv : B = -1 := by rw [← HB.out, hi, if_pos (by omega)]
                  have Hv := Lib.hid hv
                  clear hi hv
                  go_wp2
                  go_ret
                  exact ⟨ret_int Hv.out.symm, rfl⟩
            · have e3 : (((s[1]'hp1).toNat : Int) != 42) = true := by simp; omega
              rw [if_pos hs42] at hV
              rw [hV]
              clear hV h2 hl h47 hs1 hs42
              go_enter Tryd.func33, Tryd.ntmps33
              go_wp2
              go_ret
              exact ⟨rfl, rfl⟩
        · have e1 : (((s[0]'hp0).toNat : Int) != 47) = true := by simp; omega
          rw [hV, if_pos (Or.inr h47)]
          clear hV h2 hl h47
          go_enter Tryd.func33, Tryd.ntmps33
          go_wp2
          go_ret
          exact ⟨rfl, rfl⟩
end Go.Proofs.YtokdoklkaojheaaDoor

import Derived.Test.YtokdoklkaojheaaDoorYg
namespace Go.Proofs.YtokdoklkaojheaaDoor
open Go.RowKit

theorem refUpper_any (s : ByteArray) (w : World) (hs : s.size ≤ 65536) :
    Calls Tryd.prog 86 #[.string s] w fun r w' => r = .returned (.bool (upB s.data.toList)) ∧ Below w.heap.size w w' := by
  have cn := fun w => refName_any s w hs
  unfold upB
  cases hn : nameR s.data.toList with
  | false =>
    rw [hn] at cn
    have Cn := Lib.hid cn; clear cn hn
    go_enter Tryd.func86, Tryd.ntmps86
    go_wp2_with fail
    refine (Cn.out _).mono ?_; rintro e w1 ⟨rfl, hb⟩
    have Hb := Lib.hid hb; clear hb
    go_wp2
    go_ret
    exact ⟨rfl, Hb.out⟩
  | true =>
    rw [hn] at cn
    have hp0 : 0 < s.size := by
      rcases Nat.eq_zero_or_pos s.size with h | h
      · rw [nameR_none s (Or.inl h)] at hn; cases hn
      · exact h
    rw [getD_zero s hp0]
    have Cn := Lib.hid cn; clear cn hn
    by_cases h1 : 65 ≤ (s[0]'hp0).toNat
    · have d1 : decide ((65 : Int) ≤ ((s[0]'hp0).toNat : Int)) = true := decide_eq_true (by omega)
      by_cases h2 : (s[0]'hp0).toNat ≤ 90
      · have d2 : decide (((s[0]'hp0).toNat : Int) ≤ 90) = true := decide_eq_true (by omega)
        rw [decide_eq_true ⟨h1, h2⟩]
        clear h1 h2
        go_enter Tryd.func86, Tryd.ntmps86
        go_wp2_with fail
        refine (Cn.out _).mono ?_; rintro e w1 ⟨rfl, hb⟩
        have Hb := Lib.hid hb; clear hb
        go_wp2
        go_ret
        exact ⟨rfl, Hb.out⟩
      · have d2 : decide (((s[0]'hp0).toNat : Int) ≤ 90) = false := decide_eq_false (by omega)
        rw [decide_eq_false (fun h => h2 h.2)]
        clear h1 h2
        go_enter Tryd.func86, Tryd.ntmps86
        go_wp2_with fail
        refine (Cn.out _).mono ?_; rintro e w1 ⟨rfl, hb⟩
        have Hb := Lib.hid hb; clear hb
        go_wp2
        go_ret
        exact ⟨rfl, Hb.out⟩
    · have d1 : decide ((65 : Int) ≤ ((s[0]'hp0).toNat : Int)) = false := decide_eq_false (by omega)
      rw [decide_eq_false (fun h => h1 h.1)]
      clear h1
      go_enter Tryd.func86, Tryd.ntmps86
      go_wp2_with fail
      refine (Cn.out _).mono ?_; rintro e w1 ⟨rfl, hb⟩
      have Hb := Lib.hid hb; clear hb
      go_wp2
      go_ret
      exact ⟨rfl, Hb.out⟩

theorem refLower_any (s : ByteArray) (w : World) (hs : s.size ≤ 65536) :
    Calls Tryd.prog 87 #[.string s] w fun r w' => r = .returned (.bool (loB s.data.toList)) ∧ Below w.heap.size w w' := by
  have cn := fun w => refName_any s w hs
  unfold loB
  cases hn : nameR s.data.toList with
  | false =>
    rw [hn] at cn
    have Cn := Lib.hid cn; clear cn hn
    go_enter Tryd.func87, Tryd.ntmps87
    go_wp2_with fail
    refine (Cn.out _).mono ?_; rintro e w1 ⟨rfl, hb⟩
    have Hb := Lib.hid hb; clear hb
    go_wp2
    go_ret
    exact ⟨rfl, Hb.out⟩
  | true =>
    rw [hn] at cn
    have hp0 : 0 < s.size := by
      rcases Nat.eq_zero_or_pos s.size with h | h
      · rw [nameR_none s (Or.inl h)] at hn; cases hn
      · exact h
    rw [getD_zero s hp0]
    have Cn := Lib.hid cn; clear cn hn
    by_cases h1 : 97 ≤ (s[0]'hp0).toNat
    · have d1 : decide ((97 : Int) ≤ ((s[0]'hp0).toNat : Int)) = true := decide_eq_true (by omega)
      rw [decide_eq_true h1]
      clear h1
      go_enter Tryd.func87, Tryd.ntmps87
      go_wp2_with fail
      refine (Cn.out _).mono ?_; rintro e w1 ⟨rfl, hb⟩
      have Hb := Lib.hid hb; clear hb
      go_wp2
      go_ret
      exact ⟨rfl, Hb.out⟩
    · have d1 : decide ((97 : Int) ≤ ((s[0]'hp0).toNat : Int)) = false := decide_eq_false (by omega)
      rw [decide_eq_false h1]
      clear h1
      go_enter Tryd.func87, Tryd.ntmps87
      go_wp2_with fail
      refine (Cn.out _).mono ?_; rintro e w1 ⟨rfl, hb⟩
      have Hb := Lib.hid hb; clear hb
      go_wp2
      go_ret
      exact ⟨rfl, Hb.out⟩

/-- a text before and behind its first two colons -/
def ccI (s : ByteArray) : Int := Lib.index s.data.toList [58, 58]
def spA (s : ByteArray) : ByteArray := if 0 ≤ ccI s then s.extract 0 (ccI s).toNat else ⟨#[]⟩
def spB (s : ByteArray) : ByteArray := if 0 ≤ ccI s then s.extract ((ccI s).toNat + 2) s.size else s

theorem spA_list (s : ByteArray) : (spA s).data.toList = splitA s.data.toList := by
  unfold spA splitA ccI
  split
  · rw [Lib.extract_data]; simp
  · rfl
theorem spB_list (s : ByteArray) : (spB s).data.toList = splitB s.data.toList := by
  unfold spB splitB ccI
  split
  · rw [Lib.extract_to_end]
  · rfl

theorem occ_at (s : ByteArray) (k : Nat) (h : k + 1 < s.size) : Lib.occAt s.data.toList [58, 58] k = ((((s[k]'(by omega)).toNat : Int) == 58) && (((s[k + 1]'h).toNat : Int) == 58)) := by
  unfold Lib.occAt
  have hl : s.data.toList.length = s.size := by simp
  rw [List.drop_eq_getElem_cons (by omega : k < s.data.toList.length), List.drop_eq_getElem_cons (by omega : k + 1 < s.data.toList.length)]
  rw [show s.data.toList[k]'(by omega) = s[k]'(by omega) from rfl, show s.data.toList[k + 1]'(by omega) = s[k + 1]'h from rfl]
  generalize s[k]'(by omega) = a
  generalize s[k + 1]'h = b
  simp only [List.isPrefixOf, Bool.and_true]
  rw [Bool.eq_iff_iff]
  simp only [Bool.and_eq_true, beq_iff_eq, ← UInt8.toNat_inj, UInt8.toNat_ofNat]
  simp; omega

set_option maxHeartbeats 1000000 in
theorem refSplit_any (s : ByteArray) (w : World) (hs : s.size ≤ 65536) :
    Calls Tryd.prog 42 #[.string s] w fun r w' => r = .returned (.tuple #[.string (spA s), .string (spB s)]) ∧ Below w.heap.size w w' := by
  have hl : s.data.toList.length = s.size := by simp
  have Hl := Lib.hid hl; clear hl
  go_enter Tryd.func42, Tryd.ntmps42
  go_wp2
  go_loop [4] (fun i => ∃ k : Nat, k ≤ s.size ∧ i = .int .i64 k ∧ Lib.NoOcc s.data.toList [58, 58] k) (fun i => s.size - (intOf i).toNat)
  case atStart => exact ⟨0, Nat.zero_le _, rfl, Lib.NoOcc.zero _ _⟩
  case round =>
    obtain ⟨k, hk, rfl, hr⟩ := hrel
    have Hr := Lib.hid hr; clear hr
    by_cases hlt : k + 1 < s.size
    · have hk1 : k < s.size := by omega
      have ho := occ_at s k hlt
      have hadd : ((k : Int) + 1).toNat = k + 1 := by omega
      cases h1 : (((s[k]'hk1).toNat : Int) == 58) with
      | false =>
        rw [h1] at ho
        have hst := Hr.out.succ ho
        have Hst := Lib.hid hst; clear hst ho
        go_wp2
        go_round
        case rel => exact ⟨k + 1, by omega, by go_num, Hst.out⟩
        case measure => simp [intOf]; omega
      | true =>
        rw [h1] at ho
        cases h2 : (((s[k + 1]'hlt).toNat : Int) == 58) with
        | false =>
          rw [h2] at ho
          have hst := Hr.out.succ ho
          have Hst := Lib.hid hst; clear hst ho
          go_wp2
          go_round
          case rel => exact ⟨k + 1, by omega, by go_num, Hst.out⟩
          case measure => simp [intOf]; omega
        | true =>
          rw [h2] at ho
          have hi := Lib.index_hit Hr.out (by have := Hl.out; omega) ho
          have hA : spA s = s.extract 0 k := by unfold spA ccI; rw [hi, if_pos (by omega)]; simp
          have hB : spB s = s.extract (k + 2) s.size := by unfold spB ccI; rw [hi, if_pos (by omega)]; simp
          have HA := Lib.hid hA; have HB := Lib.hid hB
          have hi1 : ((k : Int) + 2) ≤ (s.size : Int) := by omega
          have hi2 : (0 : Int) ≤ (k : Int) + 2 := by omega
          have hi3 : ((k : Int) + 2).toNat = k + 2 := by omega
          have hi4 : k + 2 ≤ s.size := by omega
          clear hi hA hB ho
          go_wp2
          go_quiet (fail)
          go_wp2
          go_ret2
          exact ⟨by rw [HA.out, HB.out]; rfl, below_drewN (Below.refl _ _) _⟩
    · have hi := Lib.index_past (s := s.data.toList) (sub := [58, 58]) (by simp) Hr.out (by have := Hl.out; simp; omega)
      have hA : spA s = ⟨#[]⟩ := by unfold spA ccI; rw [hi, if_neg (by omega)]
      have hB : spB s = s := by unfold spB ccI; rw [hi, if_neg (by omega)]
      have HA := Lib.hid hA; have HB := Lib.hid hB
      clear hi hA hB
      go_wp2
      go_ret2
      exact ⟨by rw [HA.out, HB.out]; rfl, Below.refl _ _⟩
end Go.Proofs.YtokdoklkaojheaaDoor

import Derived.Test.YtokdoklkaojheaaDoorYc
namespace Go.Proofs.YtokdoklkaojheaaDoor
open Go.RowKit

/-- do all bytes from a place on pass a test? -/
def allFrom (p : UInt8 → Bool) (s : ByteArray) (k : Nat) : Bool := (s.data.toList.drop k).all p
theorem all_step {p : UInt8 → Bool} (s : ByteArray) (k : Nat) (h : k < s.size) (e : p (s[k]'h) = true) : allFrom p s k = allFrom p s (k + 1) := by
  unfold allFrom
  rw [List.drop_eq_getElem_cons (by simpa using h), List.all_cons, show s.data.toList[k]'(by simpa using h) = s[k] from rfl, e, Bool.true_and]
theorem all_stop {p : UInt8 → Bool} (s : ByteArray) (k : Nat) (h : k < s.size) (e : p (s[k]'h) = false) : allFrom p s k = false := by
  unfold allFrom
  rw [List.drop_eq_getElem_cons (by simpa using h), List.all_cons, show s.data.toList[k]'(by simpa using h) = s[k] from rfl, e, Bool.false_and]
theorem all_end {p : UInt8 → Bool} (s : ByteArray) (k : Nat) (h : ¬ k < s.size) : allFrom p s k = true := by
  unfold allFrom
  rw [List.drop_of_length_le (by simp; omega)]; rfl

def zeroB (s : ByteArray) : Bool := decide (1 < s.size) && decide ((s.data.toList.getD 0 0).toNat = 48)
def numOk (s : ByteArray) (m : Nat) : Bool := decide (s.size ≠ 0 ∧ s.size ≤ m) && !zeroB s && allFrom isDigB s 0

theorem empty_beq (s : ByteArray) : (s.toList == []) = decide (s.size = 0) := by
  rw [toList_eq, Lib.size_eq]
  cases s.data.toList <;> simp

theorem byte_list (s : ByteArray) (k : Nat) (h : k < s.size) : s.data.toList[k]'(by simpa using h) = s[k] := rfl

set_option maxHeartbeats 1000000 in
theorem isNumber_any (s : ByteArray) (m : Nat) (w : World) (hs : s.size ≤ 65536) (hm : m ≤ 65536) :
    Calls Tryd.prog 134 #[.string s, .int .i64 m] w fun r w' => r = .returned (.bool (numOk s m)) ∧ w = w' := by
  by_cases h0 : s.size = 0
  · have he : (s.toList == []) = true := by rw [empty_beq]; simp [h0]
    have hv : numOk s m = false := by unfold numOk; simp [h0]
    rw [hv]
    clear hv h0
    go_enter Tryd.func134, Tryd.ntmps134
    go_wp2
    go_ret
    exact ⟨rfl, rfl⟩
  · have he : (s.toList == []) = false := by rw [empty_beq]; simp [h0]
    by_cases h1 : m < s.size
    · have d1 : decide ((m : Int) < s.size) = true := decide_eq_true (by omega)
      have d1' : decide (m < s.size) = true := decide_eq_true h1
      have hv : numOk s m = false := by unfold numOk; simp; omega
      rw [hv]
      clear hv h0 h1
      go_enter Tryd.func134, Tryd.ntmps134
      go_wp2
      go_ret
      exact ⟨rfl, rfl⟩
    · have d1 : decide ((m : Int) < s.size) = false := decide_eq_false (by omega)
      have d1' : decide (m < s.size) = false := decide_eq_false h1
      have hp0 : 0 < s.size := by omega
      have hg := getD_zero s hp0
      have hz : zeroB s = (decide (1 < s.size) && decide ((s[0]'hp0).toNat = 48)) := by unfold zeroB; rw [hg]
      have h48 : (((s[0]'hp0).toNat : Int) == 48) = decide ((s[0]'hp0).toNat = 48) := by rw [Bool.eq_iff_iff]; simp; omega
      have hv : numOk s m = (!zeroB s && allFrom isDigB s 0) := by unfold numOk; rw [decide_eq_true ⟨h0, by omega⟩]; simp
      rw [hv]
      clear hv
      have hx : (1 < s.size ∧ (s[0]'hp0).toNat = 48) ∨ (s.size ≤ 1) ∨ (1 < s.size ∧ (s[0]'hp0).toNat ≠ 48) := by omega
      have Hz := Lib.hid hz; clear hz
      rcases hx with ⟨hx1, hx2⟩ | hx
      · have d2 : decide ((1 : Int) < s.size) = true := decide_eq_true (by omega)
        have d2' : decide (1 < s.size) = true := decide_eq_true hx1
        rw [decide_eq_true hx2] at h48
        have hv : (!zeroB s && allFrom isDigB s 0) = false := by rw [Hz.out, decide_eq_true hx1, decide_eq_true hx2]; rfl
        rw [hv]
        clear hv h0 h1 hx1 hx2 hg
        go_enter Tryd.func134, Tryd.ntmps134
        go_wp2
        go_ret
        exact ⟨rfl, rfl⟩
      · have hzf : zeroB s = false := by
          rw [Hz.out]
          rcases hx with hx | ⟨_, hx⟩
          · rw [decide_eq_false (by omega)]; rfl
          · rw [decide_eq_false hx]; simp
        rw [hzf]
        have hcase : (decide ((1 : Int) < s.size) = false ∧ decide (1 < s.size) = false) ∨ (decide ((1 : Int) < s.size) = true ∧ decide (1 < s.size) = true ∧ (((s[0]'hp0).toNat : Int) == 48) = false) := by
          rcases hx with hx | ⟨hx1, hx2⟩
          · left; exact ⟨decide_eq_false (by omega), decide_eq_false (by omega)⟩
          · right; exact ⟨decide_eq_true (by omega), decide_eq_true hx1, by rw [h48, decide_eq_false hx2]⟩
        clear hzf hx hg h48 h0 h1 Hz
        rcases hcase with ⟨d2, d2'⟩ | ⟨d2, d2', d3⟩
        all_goals
          go_enter Tryd.func134, Tryd.ntmps134
          go_wp2
          go_loop [5] (fun i => ∃ k : Nat, k ≤ s.size ∧ i = .int .i64 k ∧ allFrom isDigB s 0 = allFrom isDigB s k) (fun i => s.size - (intOf i).toNat)
          case atStart => exact ⟨0, Nat.zero_le _, rfl, rfl⟩
          case round =>
            obtain ⟨k, hk, rfl, hr⟩ := hrel
            have Hr := Lib.hid hr; clear hr
            by_cases hlt : k < s.size
            · have hd := refDigit_any ((s[k]'hlt).toNat : Int)
              cases hb : isDigZ ((s[k]'hlt).toNat : Int) with
              | true =>
                rw [hb] at hd
                have hst := Hr.out.trans (all_step s k hlt hb)
                have Hst := Lib.hid hst; clear hst hb
                have Hd := Lib.hid hd; clear hd
                go_wp2_with fail
                refine (Hd.out _).mono ?_; rintro e w2 ⟨rfl, rfl⟩
                go_wp2
                go_round
                case rel => exact ⟨k + 1, by omega, by go_num, Hst.out⟩
                case measure => simp [intOf]; omega
              | false =>
                rw [hb] at hd
                have hst := Hr.out.trans (all_stop s k hlt hb)
                have Hst := Lib.hid hst; clear hst hb
                have Hd := Lib.hid hd; clear hd
                go_wp2_with fail
                refine (Hd.out _).mono ?_; rintro e w2 ⟨rfl, rfl⟩
                go_wp2
                go_ret
                exact ⟨by rw [Hst.out]; rfl, rfl⟩
            · have hst := Hr.out.trans (all_end s k hlt)
              have Hst := Lib.hid hst; clear hst
              go_wp2
              go_ret
              exact ⟨by rw [Hst.out]; rfl, rfl⟩
end Go.Proofs.YtokdoklkaojheaaDoor

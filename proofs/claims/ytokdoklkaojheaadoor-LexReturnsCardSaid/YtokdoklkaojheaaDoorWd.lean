import Derived.Test.YtokdoklkaojheaaDoorWc
namespace Go.Proofs.YtokdoklkaojheaaDoor
open Go.RowKit

theorem posErr_cases (n : Nat) (a : Int) : (posErr n a = 23 ∧ (n : Int) > 65536) ∨ (posErr n a = 3 ∧ (n : Int) ≤ 65536 ∧ a < 0) ∨ (posErr n a = 3 ∧ (n : Int) ≤ 65536 ∧ 0 ≤ a ∧ (n : Int) < a) ∨ (posErr n a = 0 ∧ (n : Int) ≤ 65536 ∧ 0 ≤ a ∧ a ≤ n) := by
  unfold posErr firstErr firstErr ckText ckRange firstErr
  by_cases h1 : (n : Int) > 65536
  · simp [h1]
  · by_cases h2 : a < 0
    · simp [h1, h2]; omega
    · by_cases h3 : (n : Int) < a
      · simp [h1, h2, h3]; omega
      · simp [h1, h2, h3]; omega

set_option maxHeartbeats 1000000 in
theorem refPosition_bad (s : ByteArray) (at_ : Int) (w : World) (hs : s.size ≤ maxLen) (hp : posErr s.size at_ ≠ 0) :
    Calls Tryd.prog 24 #[.string s, .int .i64 at_] w fun r w' =>
      r = .returned (.tuple #[.int .i64 0, .int .i64 0, .int .i64 (posErr s.size at_)]) ∧ Below w.heap.size w w' := by
  unfold maxLen at hs
  have hc : (posErr s.size at_ = 23 ∧ (s.size : Int) > 65536 ∧ at_ < 0) ∨ (posErr s.size at_ = 23 ∧ (s.size : Int) > 65536 ∧ 0 ≤ at_ ∧ (s.size : Int) < at_) ∨ (posErr s.size at_ = 23 ∧ (s.size : Int) > 65536 ∧ 0 ≤ at_ ∧ at_ ≤ s.size) ∨
     (posErr s.size at_ = 3 ∧ (s.size : Int) ≤ 65536 ∧ at_ < 0) ∨ (posErr s.size at_ = 3 ∧ (s.size : Int) ≤ 65536 ∧ 0 ≤ at_ ∧ (s.size : Int) < at_) := by
    have := posErr_cases s.size at_; omega
  clear hp
  rcases hc with ⟨h0, h1, h2⟩ | ⟨h0, h1, h2, h3⟩ | ⟨h0, h1, h2, h3⟩ | ⟨h0, h1, h2⟩ | ⟨h0, h1, h2, h3⟩
  all_goals
    rw [h0]
    clear h0
    first | (have d1 : decide ((65536 : Int) < s.size) = true := by simp; omega) | (have d1 : decide ((65536 : Int) < s.size) = false := by simp; omega)
    first | (have d2 : decide (at_ < 0) = true := by simp; omega) | (have d2 : decide (at_ < 0) = false := by simp; omega)
    first | (have d3 : decide ((s.size : Int) < at_) = true := by simp; omega) | (have d3 : decide ((s.size : Int) < at_) = false := by simp; omega)
    go_enter Tryd.func24, Tryd.ntmps24
    go_wp2_with fail
    refine (when_any _ _ _).mono ?_; rintro e w1 ⟨rfl, rfl⟩
    go_wp2_with fail
    refine (when_any _ _ _).mono ?_; rintro e w1 ⟨rfl, rfl⟩
    go_wp2_with fail
    refine (first2 _ _ _ _).mono ?_; rintro e w1 ⟨rfl, rfl⟩
    simp only [ckWhen, firstErr, if_true, if_false, Bool.false_eq_true]
    go_wp2
    go_ret3
    exact ⟨rfl, (Below.refl _ _).alloc (Nat.le_refl _) _⟩

set_option maxHeartbeats 1000000 in
theorem refPosition_ok (s : ByteArray) (n : Nat) (w : World) (hs : s.size ≤ maxLen) (hp : posErr s.size n = 0) :
    Calls Tryd.prog 24 #[.string s, .int .i64 n] w fun r w' =>
      r = .returned (.tuple #[.int .i64 (posLine s n), .int .i64 (posCol s n), .int .i64 0]) ∧ Below w.heap.size w w' := by
  unfold maxLen at hs
  have h3 := posErr_ok _ _ hp
  clear hp
  have d1 : decide ((65536 : Int) < s.size) = false := by simp; omega
  have d2 : decide ((n : Int) < 0) = false := by simp
  have d3 : decide ((s.size : Int) < (n : Int)) = false := by simp; omega
  have d4 : decide (s.size < n) = false := by simp; omega
  go_enter Tryd.func24, Tryd.ntmps24
  go_wp2_with fail
  refine (when_any _ _ _).mono ?_; rintro e w1 ⟨rfl, rfl⟩
  go_wp2_with fail
  refine (when_any _ _ _).mono ?_; rintro e w1 ⟨rfl, rfl⟩
  go_wp2_with fail
  refine (first2 _ _ _ _).mono ?_; rintro e w1 ⟨rfl, rfl⟩
  simp only [ckWhen, firstErr, if_true, if_false, Bool.false_eq_true]
  go_wp2
  go_loop [8, 9, 10] (fun l c i => ∃ k : Nat, k ≤ n ∧ i = .int .i64 k ∧ l = .int .i64 (posLine s k) ∧ c = .int .i64 (posCol s k)) (fun _ _ i => n - (intOf i).toNat)
  case atStart => exact ⟨0, Nat.zero_le _, rfl, rfl, rfl⟩
  case round =>
    obtain ⟨k, hk, rfl, rfl, rfl⟩ := hrel
    have hle := posLine_le s k
    by_cases hlt : k < n
    · have hks : k < s.size := by omega
      go_wp2
      · have ht : ((s[k].toNat : Int) == 10) = true := by assumption
        go_round
        case rel => exact ⟨k + 1, by omega, by go_num, int_v (pos_nl s k hks ht).1, int_v (pos_nl s k hks ht).2⟩
        case measure => simp [intOf]; omega
      · have ht : ((s[k].toNat : Int) == 10) = false := by first | assumption | simpa using (by assumption : ¬ ((s[k].toNat : Int) == 10) = true)
        go_round
        case rel => exact ⟨k + 1, by omega, by go_num, int_v (pos_other s k hks ht).1, int_v (pos_other s k hks ht).2⟩
        case measure => simp [intOf]; omega
    · have : k = n := by omega
      subst this
      go_wp2
      go_ret3
      exact ⟨rfl, (Below.refl _ _).alloc (Nat.le_refl _) _⟩
end Go.Proofs.YtokdoklkaojheaaDoor

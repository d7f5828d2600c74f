import Derived.Test.YtokdoklkaojheaaDoorWb
import Derived.Test.YtokdoklkaojheaaDoorMa
namespace Go.Proofs.YtokdoklkaojheaaDoor
open Go.RowKit

theorem posStep_le (p : Nat × Nat) (c : UInt8) : (posStep p c).1 ≤ p.1 + 1 ∧ (posStep p c).2 ≤ p.2 + 1 ∧ 1 ≤ (posStep p c).2 ∧ p.1 ≤ (posStep p c).1 := by
  unfold posStep; split <;> simp
theorem foldl_pos_le (l : List UInt8) : ∀ p : Nat × Nat, 1 ≤ p.2 → (l.foldl posStep p).1 ≤ p.1 + l.length ∧ (l.foldl posStep p).2 ≤ p.2 + l.length ∧ 1 ≤ (l.foldl posStep p).2 ∧ p.1 ≤ (l.foldl posStep p).1 := by
  induction l with
  | nil => intro p h; simp [h]
  | cons c l ih =>
    intro p h
    have h1 := posStep_le p c
    have h2 := ih (posStep p c) h1.2.2.1
    simp only [List.foldl_cons, List.length_cons]; omega
theorem posOf_le (l : List UInt8) : (posOf l).1 ≤ 1 + l.length ∧ (posOf l).2 ≤ 1 + l.length ∧ 1 ≤ (posOf l).2 ∧ 1 ≤ (posOf l).1 := by
  have := foldl_pos_le l (1, 1) (by simp); simpa [posOf] using this
theorem take_snoc (s : ByteArray) (k : Nat) (h : k < s.size) : s.data.toList.take (k + 1) = s.data.toList.take k ++ [s[k]] := by
  rw [List.take_succ_eq_append_getElem (by simpa using h)]; rfl

/-- what Position returns -/
def posErr (n : Nat) (at_ : Int) : Int := firstErr [ckText n, ckRange at_ 0 n]
def posLine (s : ByteArray) (n : Nat) : Int := (posOf (s.data.toList.take n)).1
def posCol (s : ByteArray) (n : Nat) : Int := (posOf (s.data.toList.take n)).2
theorem posLine_le (s : ByteArray) (n : Nat) : 1 ≤ posLine s n ∧ posLine s n ≤ 1 + n ∧ 1 ≤ posCol s n ∧ posCol s n ≤ 1 + n := by
  have h1 := posOf_le (s.data.toList.take n)
  have h2 : (s.data.toList.take n).length ≤ n := List.length_take_le _ _
  unfold posLine posCol; omega
theorem pos_step (s : ByteArray) (k : Nat) (h : k < s.size) : (posLine s (k + 1) = if s[k] = 10 then posLine s k + 1 else posLine s k) ∧ posCol s (k + 1) = if s[k] = 10 then 1 else posCol s k + 1 := by
  unfold posLine posCol
  rw [take_snoc s k h, posOf_snoc]
  unfold posStep
  by_cases e : s[k] = 10 <;> simp [e]

theorem u8_ten (c : UInt8) : ((c.toNat : Int) == 10) = decide (c = 10) := by
  rw [Bool.eq_iff_iff]; simp [← UInt8.toNat_inj]; omega
theorem pos_nl (s : ByteArray) (k : Nat) (h : k < s.size) (e : ((s[k].toNat : Int) == 10) = true) : posLine s k + 1 = posLine s (k + 1) ∧ (1 : Int) = posCol s (k + 1) := by
  rw [u8_ten] at e; have := pos_step s k h; simp at e; simp [this, e]
theorem pos_other (s : ByteArray) (k : Nat) (h : k < s.size) (e : ((s[k].toNat : Int) == 10) = false) : posLine s k = posLine s (k + 1) ∧ posCol s k + 1 = posCol s (k + 1) := by
  rw [u8_ten] at e; have := pos_step s k h; simp at e; simp [this, e]
theorem int_v {a b : Int} (h : a = b) : Value.int .i64 a = .int .i64 b := by rw [h]

theorem posErr_ok (n : Nat) (a : Int) (h : posErr n a = 0) : 0 ≤ a ∧ a ≤ n ∧ n ≤ 65536 := by
  unfold posErr firstErr firstErr ckText ckRange at h
  by_cases h1 : (n : Int) > 65536
  · simp [h1] at h
  · by_cases h2 : a < 0 ∨ (n : Int) < a
    · simp [h1, h2, firstErr] at h
    · omega

set_option maxHeartbeats 1000000 in
theorem lexPosition_bad (s : ByteArray) (at_ : Int) (w : World) (hs : s.size ≤ maxLen) (hp : posErr s.size at_ ≠ 0) :
    Calls Tryd.prog 25 #[.string s, .int .i64 at_] w fun r w' =>
      r = .returned (.tuple #[.int .i64 0, .int .i64 0, .int .i64 (posErr s.size at_)]) ∧ Below w.heap.size w w' := by
  unfold maxLen at hs
  have hb : (posErr s.size at_ != 0) = true := by simpa using hp
  clear hp
  go_enter Tryd.func25, Tryd.ntmps25
  go_wp2_with fail
  refine (checkText_any _ _).mono ?_; rintro e w1 ⟨rfl, rfl⟩
  go_wp2_with fail
  refine (checkRange_any _ _ _ _).mono ?_; rintro e w1 ⟨rfl, rfl⟩
  go_wp2_with fail
  refine (firstError2 _ _ _ _).mono ?_; rintro e w1 ⟨rfl, rfl⟩
  rw [show firstErr [ckText s.size, ckRange at_ 0 s.size] = posErr s.size at_ from rfl]
  generalize hx : posErr s.size at_ = x at *
  have Hx := Lib.hid hx; clear hx
  go_wp2
  go_ret3
  exact ⟨by rw [Hx.out]; rfl, (Below.refl _ _).alloc (Nat.le_refl _) _⟩

set_option maxHeartbeats 1000000 in
theorem lexPosition_ok (s : ByteArray) (n : Nat) (w : World) (hs : s.size ≤ maxLen) (hp : posErr s.size n = 0) :
    Calls Tryd.prog 25 #[.string s, .int .i64 n] w fun r w' =>
      r = .returned (.tuple #[.int .i64 (posLine s n), .int .i64 (posCol s n), .int .i64 0]) ∧ Below w.heap.size w w' := by
  unfold maxLen at hs
  have h3 := posErr_ok _ _ hp
  have hb : (posErr s.size n != 0) = false := by simpa using hp
  have Hp := Lib.hid hp; clear hp
  go_enter Tryd.func25, Tryd.ntmps25
  go_wp2_with fail
  refine (checkText_any _ _).mono ?_; rintro e w1 ⟨rfl, rfl⟩
  go_wp2_with fail
  refine (checkRange_any _ _ _ _).mono ?_; rintro e w1 ⟨rfl, rfl⟩
  go_wp2_with fail
  refine (firstError2 _ _ _ _).mono ?_; rintro e w1 ⟨rfl, rfl⟩
  rw [show firstErr [ckText s.size, ckRange n 0 s.size] = posErr s.size n from rfl, Hp.out]
  clear hb
  go_wp2
  go_loop [8, 9, 23] (fun l c i => ∃ k : Nat, k ≤ n ∧ i = .int .i64 k ∧ l = .int .i64 (posLine s k) ∧ c = .int .i64 (posCol s k)) (fun _ _ i => n - (intOf i).toNat)
  case atStart => exact ⟨0, Nat.zero_le _, rfl, rfl, rfl⟩
  case round =>
    obtain ⟨k, hk, rfl, rfl, rfl⟩ := hrel
    have hle := posLine_le s k
    by_cases hlt : k < n
    · have hks : k < s.size := by omega
      go_wp2
      · have ht : ((s[k].toNat : Int) == 10) = true := by assumption
        go_round
        case rel => exact ⟨k + 1, by omega, by go_num, int_v (pos_nl s k hks ht).1, int_v (pos_nl s k hks ht).2⟩
        case measure => simp [intOf]; omega
      · have ht : ((s[k].toNat : Int) == 10) = false := by first | assumption | simpa using (by assumption : ¬ ((s[k].toNat : Int) == 10) = true)
        go_round
        case rel => exact ⟨k + 1, by omega, by go_num, int_v (pos_other s k hks ht).1, int_v (pos_other s k hks ht).2⟩
        case measure => simp [intOf]; omega
    · have : k = n := by omega
      subst this
      go_wp2
      go_ret3
      exact ⟨rfl, (Below.refl _ _).alloc (Nat.le_refl _) _⟩
end Go.Proofs.YtokdoklkaojheaaDoor

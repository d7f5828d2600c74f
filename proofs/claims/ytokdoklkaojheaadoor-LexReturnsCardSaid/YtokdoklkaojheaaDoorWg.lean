import Derived.Test.YtokdoklkaojheaaDoorWf
import Derived.Test.YtokdoklkaojheaaDoorMb
import Derived.Lib.OthersKept
namespace Go.Proofs.YtokdoklkaojheaaDoor
open Go.RowKit

def isLetZ (r : Int) : Bool := decide (97 ≤ r ∧ r ≤ 122 ∨ 65 ≤ r ∧ r ≤ 90)
def isDigZ (r : Int) : Bool := decide (48 ≤ r ∧ r ≤ 57)
def isWordZ (r : Int) : Bool := isLetZ r || isDigZ r || r == 95
def isSpZ (r : Int) : Bool := r == 32 || r == 9 || r == 10 || r == 13
def notNlZ (r : Int) : Bool := r != 10

theorem isLetter_any (r : Int) (w : World) : Calls Tryd.prog 135 #[.int .i32 r] w fun e w' => e = .returned (.bool (isLetZ r)) ∧ w = w' := by
  have hc : (97 ≤ r ∧ r ≤ 122) ∨ (122 < r) ∨ (90 < r ∧ r < 97) ∨ (65 ≤ r ∧ r ≤ 90) ∨ (r < 65) := by omega
  rcases hc with ⟨h1, h2⟩ | h1 | ⟨h1, h2⟩ | ⟨h1, h2⟩ | h1
  all_goals
    have hr : isLetZ r = true ∨ isLetZ r = false := by cases isLetZ r <;> simp
    have hd : isLetZ r = decide (97 ≤ r ∧ r ≤ 122 ∨ 65 ≤ r ∧ r ≤ 90) := rfl
    first | (have d1 : decide ((97 : Int) ≤ r) = true := by simp; omega) | (have d1 : decide ((97 : Int) ≤ r) = false := by simp; omega)
    first | (have d2 : decide (r ≤ (122 : Int)) = true := by simp; omega) | (have d2 : decide (r ≤ (122 : Int)) = false := by simp; omega)
    first | (have d3 : decide ((65 : Int) ≤ r) = true := by simp; omega) | (have d3 : decide ((65 : Int) ≤ r) = false := by simp; omega)
    first | (have d4 : decide (r ≤ (90 : Int)) = true := by simp; omega) | (have d4 : decide (r ≤ (90 : Int)) = false := by simp; omega)
    first
      | (have hv : isLetZ r = true := by rw [hd]; simp; omega)
      | (have hv : isLetZ r = false := by rw [hd]; simp; omega)
    rw [hv]
    clear hd hr hv
    go_enter Tryd.func135, Tryd.ntmps135
    go_wp2
    go_ret
    exact ⟨rfl, rfl⟩

theorem isDigit_any (r : Int) (w : World) : Calls Tryd.prog 114 #[.int .i32 r] w fun e w' => e = .returned (.bool (isDigZ r)) ∧ w = w' := by
  have hc : (48 ≤ r ∧ r ≤ 57) ∨ (57 < r) ∨ (r < 48) := by omega
  rcases hc with ⟨h1, h2⟩ | h1 | h1
  all_goals
    have hd : isDigZ r = decide (48 ≤ r ∧ r ≤ 57) := rfl
    first | (have d1 : decide ((48 : Int) ≤ r) = true := by simp; omega) | (have d1 : decide ((48 : Int) ≤ r) = false := by simp; omega)
    first | (have d2 : decide (r ≤ (57 : Int)) = true := by simp; omega) | (have d2 : decide (r ≤ (57 : Int)) = false := by simp; omega)
    first
      | (have hv : isDigZ r = true := by rw [hd]; simp; omega)
      | (have hv : isDigZ r = false := by rw [hd]; simp; omega)
    rw [hv]
    clear hd hv
    go_enter Tryd.func114, Tryd.ntmps114
    go_wp2
    go_ret
    exact ⟨rfl, rfl⟩

theorem isWord_any (r : Int) (w : World) : Calls Tryd.prog 116 #[.int .i32 r] w fun e w' => e = .returned (.bool (isWordZ r)) ∧ w = w' := by
  unfold isWordZ
  have h1 : isLetZ r = true ∨ isLetZ r = false := by cases isLetZ r <;> simp
  have h2 : isDigZ r = true ∨ isDigZ r = false := by cases isDigZ r <;> simp
  have h3 : (r == 95) = true ∨ (r == 95) = false := by cases (r == 95) <;> simp
  have c1 := isLetter_any r
  have c2 := isDigit_any r
  rcases h1 with h1 | h1
  · rw [h1] at c1 ⊢
    have C1 := Lib.hid c1; clear c1 c2 h2 h3
    go_enter Tryd.func116, Tryd.ntmps116
    go_wp2_with fail
    refine (C1.out _).mono ?_; rintro e w1 ⟨rfl, rfl⟩
    go_wp2
    go_ret
    exact ⟨by simp, rfl⟩
  · rw [h1] at c1 ⊢
    rcases h2 with h2 | h2
    · rw [h2] at c2 ⊢
      have C1 := Lib.hid c1; have C2 := Lib.hid c2; clear c1 c2 h3
      go_enter Tryd.func116, Tryd.ntmps116
      go_wp2_with fail
      refine (C1.out _).mono ?_; rintro e w1 ⟨rfl, rfl⟩
      go_wp2_with fail
      refine (C2.out _).mono ?_; rintro e w1 ⟨rfl, rfl⟩
      go_wp2
      go_ret
      exact ⟨by simp, rfl⟩
    · rw [h2] at c2 ⊢
      have C1 := Lib.hid c1; have C2 := Lib.hid c2; clear c1 c2
      rcases h3 with h3 | h3
      all_goals
        rw [h3]
        go_enter Tryd.func116, Tryd.ntmps116
        go_wp2_with fail
        refine (C1.out _).mono ?_; rintro e w1 ⟨rfl, rfl⟩
        go_wp2_with fail
        refine (C2.out _).mono ?_; rintro e w1 ⟨rfl, rfl⟩
        go_wp2
        go_ret
        exact ⟨rfl, rfl⟩

theorem isSp_any (r : Int) (w : World) : Calls Tryd.prog 100 #[.int .i32 r] w fun e w' => e = .returned (.bool (isSpZ r)) ∧ w = w' := by
  unfold isSpZ
  have h1 : (r == 32) = true ∨ (r == 32) = false := by cases (r == 32) <;> simp
  have h2 : (r == 9) = true ∨ (r == 9) = false := by cases (r == 9) <;> simp
  have h3 : (r == 10) = true ∨ (r == 10) = false := by cases (r == 10) <;> simp
  have h4 : (r == 13) = true ∨ (r == 13) = false := by cases (r == 13) <;> simp
  rcases h1 with h1 | h1 <;> rcases h2 with h2 | h2 <;> rcases h3 with h3 | h3 <;> rcases h4 with h4 | h4
  all_goals
    rw [h1, h2, h3, h4]
    go_enter Tryd.func100, Tryd.ntmps100
    go_wp2
    go_ret
    exact ⟨rfl, rfl⟩

theorem notNl_any (r : Int) (w : World) : Calls Tryd.prog 102 #[.int .i32 r] w fun e w' => e = .returned (.bool (notNlZ r)) ∧ w = w' := by
  unfold notNlZ
  go_enter Tryd.func102, Tryd.ntmps102
  go_wp2
  go_ret
  exact ⟨rfl, rfl⟩
end Go.Proofs.YtokdoklkaojheaaDoor

/- WHAT IS PROVED: contracts of functions of the numbers package and laws for them, used by the last text of this claim. CONDITIONS: stated at each theorem. -/
import Derived.Test.YtpbegoflpfdajaaGreatDoorN43
import Derived.Test.YtpbegoflpfdajaaGreatDoorN39
namespace Go.Proofs.YtpbegoflpfdajaaGreatDoor
open Go.RowKit

theorem icmp_neg (a b : Int) : icmp b a = -icmp a b := by unfold icmp; repeat' split; all_goals omega
theorem icmp_add (a b c : Int) : icmp (a + c) (b + c) = icmp a b := by unfold icmp; repeat' split; all_goals omega
theorem icmp_cases (a b : Int) : (a < b ∧ icmp a b = -1) ∨ (a = b ∧ icmp a b = 0) ∨ (b < a ∧ icmp a b = 1) := by
  unfold icmp
  rcases Int.lt_trichotomy a b with h | h | h
  · exact Or.inl ⟨h, if_pos h⟩
  · subst h; exact Or.inr (Or.inl ⟨rfl, by simp⟩)
  · exact Or.inr (Or.inr ⟨h, by rw [if_neg (by omega), if_pos h]⟩)
theorem mul_abs_lt {a b : Int} {k m : Nat} (ha : a.natAbs < 10 ^ k) (hb : b.natAbs < 10 ^ m) : (a * b).natAbs < 10 ^ (k + m) := by
  rw [Int.natAbs_mul, Nat.pow_add]; exact Nat.mul_lt_mul'' ha hb
theorem ba_ne {x y : ByteArray} (h : x ≠ y) : (x.toList == y.toList) = false := by
  simp only [beq_eq_false_iff_ne, ne_eq, toList_data']
  intro e
  exact h (ByteArray.ext (Array.toList_inj.1 e))
theorem ba_eq {x y : ByteArray} (h : x = y) : (x.toList == y.toList) = true := by subst h; simp
theorem big41 : 10 ^ 41 + 10 ^ 41 < 10 ^ 42 ∧ 10 ^ 42 + 10 ^ 41 < 10 ^ 120 ∧ 10 ^ (41 + 42) + 10 ^ 83 < 10 ^ 120 ∧ 10 ^ (41 + 41) < 10 ^ 83 ∧ 10 ^ 42 < 10 ^ 60 ∧ 10 ^ 41 + 1 < 10 ^ 42 ∧ (10:Nat) ^ 41 < 10 ^ 60 := by decide

set_option maxHeartbeats 4000000 in
/-- the law of rings, at three integers of at most 41 bytes -/
theorem ring_ok (a b c : ByteArray) (ha : Okz a) (hb : Okz b) (hc : Okz c) (sa : a.size ≤ 41) (sb : b.size ≤ 41) (sc : c.size ≤ 41) (w : World) (hg : Gl w) :
    Calls Tryz.prog 8 #[.string a, .string b, .string c] w fun e w' => e = .returned (.bool true) ∧ Below w.heap.size w w' := by
  obtain ⟨z1, z2, z3, z4, z5, z6, z7⟩ := big41
  have la := vz_lt ha 41 sa
  have lb := vz_lt hb 41 sb
  have lc := vz_lt hc 41 sc
  obtain ⟨A, hA⟩ : ∃ A, vz a = A := ⟨_, rfl⟩
  obtain ⟨B, hB⟩ : ∃ B, vz b = B := ⟨_, rfl⟩
  obtain ⟨C, hC⟩ : ∃ C, vz c = C := ⟨_, rfl⟩
  rw [hA] at la; rw [hB] at lb; rw [hC] at lc
  have lab : (A + B).natAbs < 10 ^ 42 := by omega
  have lbc : (B + C).natAbs < 10 ^ 42 := by omega
  have lac : (A + C).natAbs < 10 ^ 42 := by omega
  have labc : (A + B + C).natAbs < 10 ^ 120 := by omega
  have lp : (A * B).natAbs < 10 ^ 83 := by have := mul_abs_lt la lb; omega
  have ls : (A * C).natAbs < 10 ^ 83 := by have := mul_abs_lt la lc; omega
  have lr : (A * (B + C)).natAbs < 10 ^ 120 := by have := mul_abs_lt la lbc; omega
  have oab := okz_tz (z := A + B) (by omega)
  have obc := okz_tz (z := B + C) (by omega)
  have oac := okz_tz (z := A + C) (by omega)
  have op := okz_tz (z := A * B) (by omega)
  have os := okz_tz (z := A * C) (by omega)
  have ea : tz A = a := by rw [← hA]; exact tz_vz ha
  have C0 := awake_any
  have C1 : ∀ w, Gl w → Calls Tryz.prog 12 #[.string a] w fun e w' => e = .returned (.int .i64 0) ∧ Below w.heap.size w w' := fun w _ => by have := check_any a w; rwa [show ckL a.data.toList = 0 from ha] at this
  have C2 : ∀ w, Gl w → Calls Tryz.prog 12 #[.string b] w fun e w' => e = .returned (.int .i64 0) ∧ Below w.heap.size w w' := fun w _ => by have := check_any b w; rwa [show ckL b.data.toList = 0 from hb] at this
  have C3 : ∀ w, Gl w → Calls Tryz.prog 12 #[.string c] w fun e w' => e = .returned (.int .i64 0) ∧ Below w.heap.size w w' := fun w _ => by have := check_any c w; rwa [show ckL c.data.toList = 0 from hc] at this
  have C4 := fun w hg => addZ (z := A + B) ha hb (by rw [hA, hB]) (by omega) w hg
  have C5 := fun w hg => addZ (z := A + B) hb ha (by rw [hA, hB]; omega) (by omega) w hg
  have C6 := fun w hg => addZ (z := B + C) hb hc (by rw [hB, hC]) (by omega) w hg
  have C7 := fun w hg => addZ (z := A + B + C) oab hc (by rw [vz_tz, hC]) labc w hg
  have C8 := fun w hg => addZ (z := A + B + C) ha obc (by rw [vz_tz, hA]; omega) labc w hg
  have C9 := fun w hg => mulZ (z := A * B) ha hb (by rw [hA, hB]) (by omega) w hg
  have C10 := fun w hg => mulZ (z := A * B) hb ha (by rw [hA, hB, Int.mul_comm]) (by omega) w hg
  have C11 := fun w hg => mulZ (z := A * (B + C)) ha obc (by rw [vz_tz, hA]) lr w hg
  have C12 := fun w hg => mulZ (z := A * C) ha hc (by rw [hA, hC]) (by omega) w hg
  have C13 := fun w hg => addZ (z := A * (B + C)) op os (by rw [vz_tz, vz_tz, Int.mul_add]) lr w hg
  have C14 := fun w hg => subZ (z := A) oab hb (by rw [vz_tz, hB]; omega) (by omega) w hg
  have M2 := fun w hg => addZ (z := A + C) ha hc (by rw [hA, hC]) (by omega) w hg
  have M0 : ∀ k, icmp A B = k → ∀ w, Gl w → _ := fun k hk w hg => cmpZ ha hb (k := k) (by rw [hA, hB]; exact hk) w hg
  have M1 : ∀ k, icmp A B = k → ∀ w, Gl w → _ := fun k hk w hg => cmpZ hb ha (k := -k) (by rw [hA, hB, icmp_neg, hk]) w hg
  have M3 : ∀ k, icmp A B = k → ∀ w, Gl w → _ := fun k hk w hg => cmpZ oac obc (k := k) (by rw [vz_tz, vz_tz, icmp_add]; exact hk) w hg
  unfold resZ at C4 C5 C6 C7 C8 C9 C10 C11 C12 C13 C14 M2
  rw [ea] at C14
  have d1 : decide ((41 : Int) < (a.size : Int)) = false := decide_eq_false (by omega)
  have d2 : decide ((41 : Int) < (b.size : Int)) = false := decide_eq_false (by omega)
  have d3 : decide ((41 : Int) < (c.size : Int)) = false := decide_eq_false (by omega)
  by_cases h0 : B = 0
  · have dz : (b.toList == [48]) = true := by
      have : b = ⟨#[48]⟩ := vz_inj hb okz_zero (by rw [vz_zero, hB, h0])
      rw [this, toList_data']; rfl
    rcases icmp_cases A B with ⟨h1, h2⟩ | ⟨h1, h2⟩ | ⟨h1, h2⟩
    · exact ring_ltz a b c _ _ _ _ _ _ _ d1 d2 d3 (ba_ne (fun e => by rw [e, hB] at hA; omega)) dz C0 C1 C2 C3 C4 C5 C6 C7 C8 C9 C10 C11 C12 C13 C14 (M0 _ h2) (M1 _ h2) M2 (M3 _ h2) w hg
    · exact ring_eqz a b c _ _ _ _ _ _ _ d1 d2 d3 (ba_eq (vz_inj ha hb (by rw [hA, hB, h1]))) dz C0 C1 C2 C3 C4 C5 C6 C7 C8 C9 C10 C11 C12 C13 C14 (M0 _ h2) (M1 _ h2) M2 (M3 _ h2) w hg
    · exact ring_gtz a b c _ _ _ _ _ _ _ d1 d2 d3 (ba_ne (fun e => by rw [e, hB] at hA; omega)) dz C0 C1 C2 C3 C4 C5 C6 C7 C8 C9 C10 C11 C12 C13 C14 (M0 _ h2) (M1 _ h2) M2 (M3 _ h2) w hg
  · have dz : (b.toList == [48]) = false := by
      have := ba_ne (x := b) (y := ⟨#[48]⟩) (fun e => by rw [e, vz_zero] at hB; omega)
      rwa [show (⟨#[48]⟩ : ByteArray).toList = [48] by rw [toList_data']] at this
    obtain ⟨q, r, e1, e2, e3, e4, L0⟩ := divZ ha hb (by rw [hB]; exact h0) (by rw [hA]; omega) (by rw [hB]; omega)
    rw [hA, hB] at e1
    rw [hB] at e3
    rw [hA] at e4
    have lq : q.natAbs < 10 ^ 42 := by omega
    have lu : (B * q).natAbs < 10 ^ 83 := by have := mul_abs_lt lb lq; omega
    have oq := okz_tz (z := q) (by omega)
    have om := okz_tz (z := r) (by omega)
    have ou := okz_tz (z := B * q) (by omega)
    have oB := okz_tz (z := (B.natAbs : Int)) (by omega)
    have L1 := fun w hg => mulZ (z := B * q) hb oq (by rw [vz_tz, hB]) (by omega) w hg
    have L2 := fun w hg => addZ (z := A) ou om (by rw [vz_tz, vz_tz]; exact e1.symm) (by omega) w hg
    have L3 := fun w hg => cmpZ (k := icmp r 0) om okz_zero (by rw [vz_tz, vz_zero]) w hg
    have L4 := fun w => trimZ hb w
    have L5 := fun w hg => cmpZ (k := -1) om oB (by rw [vz_tz, vz_tz]; unfold icmp; rw [if_pos (by omega)]) w hg
    unfold resZ at L1 L2
    rw [ea] at L2
    rw [hB] at L4
    have dL : decide ((0 : Int) ≤ icmp r 0) = true := decide_eq_true (by unfold icmp; rw [if_neg (by omega)]; split <;> omega)
    rcases icmp_cases A B with ⟨h1, h2⟩ | ⟨h1, h2⟩ | ⟨h1, h2⟩
    · exact ring_lt a b c _ _ _ _ _ _ _ _ _ _ _ _ d1 d2 d3 (ba_ne (fun e => by rw [e, hB] at hA; omega)) dz dL C0 C1 C2 C3 C4 C5 C6 C7 C8 C9 C10 C11 C12 C13 C14 (M0 _ h2) (M1 _ h2) M2 (M3 _ h2) L0 L1 L2 L3 L4 L5 w hg
    · exact ring_eq a b c _ _ _ _ _ _ _ _ _ _ _ _ d1 d2 d3 (ba_eq (vz_inj ha hb (by rw [hA, hB, h1]))) dz dL C0 C1 C2 C3 C4 C5 C6 C7 C8 C9 C10 C11 C12 C13 C14 (M0 _ h2) (M1 _ h2) M2 (M3 _ h2) L0 L1 L2 L3 L4 L5 w hg
    · exact ring_gt a b c _ _ _ _ _ _ _ _ _ _ _ _ d1 d2 d3 (ba_ne (fun e => by rw [e, hB] at hA; omega)) dz dL C0 C1 C2 C3 C4 C5 C6 C7 C8 C9 C10 C11 C12 C13 C14 (M0 _ h2) (M1 _ h2) M2 (M3 _ h2) L0 L1 L2 L3 L4 L5 w hg
end Go.Proofs.YtpbegoflpfdajaaGreatDoor

namespace Go.Proofs.YtpbegoflpfdajaaGreatDoor
open Go.RowKit

set_option maxHeartbeats 2000000 in
set_option maxRecDepth 20000 in
theorem ring_e0 (a b c : ByteArray) 
    (d0 : decide ((41 : Int) < (a.size : Int)) = true)
    (C0 : ∀ w, Gl w → Calls Tryz.prog 10 #[] w fun e w' => e = .returned (.bool true) ∧ Below w.heap.size w w')
    (C1 : ∀ w, Gl w → Calls Tryz.prog 10 #[] w fun e w' => e = .returned (.bool true) ∧ Below w.heap.size w w')
    (w : World) (hg : Gl w) : Calls Tryz.prog 8 #[.string a, .string b, .string c] w fun e w' => e = .returned (.bool true) ∧ Below w.heap.size w w' := by
  have D0 := Lib.hid C0; clear C0
  have D1 := Lib.hid C1; clear C1
  have G0 := Lib.hid hg
  have B0 := Lib.hid (Below.refl w.heap.size w); clear hg
  go_enter Tryz.func8, Tryz.ntmps8
  go_wp2_with (first
    | (go_at_call 10; (with_reducible refine (D0.out _ G0.out).mono ?_); rintro e w1 ⟨rfl, hb⟩; have B1 := Lib.hid (B0.out.trans (hb.mono B0.out.size)); have G1 := Lib.hid (G0.out.keep hb); clear hb B0 G0)
    | (go_at_call 10; (with_reducible refine (D1.out _ G1.out).mono ?_); rintro e w2 ⟨rfl, hb⟩; have B2 := Lib.hid (B1.out.trans (hb.mono B1.out.size)); have G2 := Lib.hid (G1.out.keep hb); clear hb B1 G1))
  go_ret
  exact ⟨rfl, B2.out⟩
set_option maxHeartbeats 2000000 in
set_option maxRecDepth 20000 in
theorem ring_e1 (a b c : ByteArray) 
    (d0 : decide ((41 : Int) < (a.size : Int)) = false)
    (d1 : decide ((41 : Int) < (b.size : Int)) = true)
    (C0 : ∀ w, Gl w → Calls Tryz.prog 10 #[] w fun e w' => e = .returned (.bool true) ∧ Below w.heap.size w w')
    (C1 : ∀ w, Gl w → Calls Tryz.prog 10 #[] w fun e w' => e = .returned (.bool true) ∧ Below w.heap.size w w')
    (w : World) (hg : Gl w) : Calls Tryz.prog 8 #[.string a, .string b, .string c] w fun e w' => e = .returned (.bool true) ∧ Below w.heap.size w w' := by
  have D0 := Lib.hid C0; clear C0
  have D1 := Lib.hid C1; clear C1
  have G0 := Lib.hid hg
  have B0 := Lib.hid (Below.refl w.heap.size w); clear hg
  go_enter Tryz.func8, Tryz.ntmps8
  go_wp2_with (first
    | (go_at_call 10; (with_reducible refine (D0.out _ G0.out).mono ?_); rintro e w1 ⟨rfl, hb⟩; have B1 := Lib.hid (B0.out.trans (hb.mono B0.out.size)); have G1 := Lib.hid (G0.out.keep hb); clear hb B0 G0)
    | (go_at_call 10; (with_reducible refine (D1.out _ G1.out).mono ?_); rintro e w2 ⟨rfl, hb⟩; have B2 := Lib.hid (B1.out.trans (hb.mono B1.out.size)); have G2 := Lib.hid (G1.out.keep hb); clear hb B1 G1))
  go_ret
  exact ⟨rfl, B2.out⟩
set_option maxHeartbeats 2000000 in
set_option maxRecDepth 20000 in
theorem ring_e2 (a b c : ByteArray) 
    (d0 : decide ((41 : Int) < (a.size : Int)) = false)
    (d1 : decide ((41 : Int) < (b.size : Int)) = false)
    (d2 : decide ((41 : Int) < (c.size : Int)) = true)
    (C0 : ∀ w, Gl w → Calls Tryz.prog 10 #[] w fun e w' => e = .returned (.bool true) ∧ Below w.heap.size w w')
    (C1 : ∀ w, Gl w → Calls Tryz.prog 10 #[] w fun e w' => e = .returned (.bool true) ∧ Below w.heap.size w w')
    (w : World) (hg : Gl w) : Calls Tryz.prog 8 #[.string a, .string b, .string c] w fun e w' => e = .returned (.bool true) ∧ Below w.heap.size w w' := by
  have D0 := Lib.hid C0; clear C0
  have D1 := Lib.hid C1; clear C1
  have G0 := Lib.hid hg
  have B0 := Lib.hid (Below.refl w.heap.size w); clear hg
  go_enter Tryz.func8, Tryz.ntmps8
  go_wp2_with (first
    | (go_at_call 10; (with_reducible refine (D0.out _ G0.out).mono ?_); rintro e w1 ⟨rfl, hb⟩; have B1 := Lib.hid (B0.out.trans (hb.mono B0.out.size)); have G1 := Lib.hid (G0.out.keep hb); clear hb B0 G0)
    | (go_at_call 10; (with_reducible refine (D1.out _ G1.out).mono ?_); rintro e w2 ⟨rfl, hb⟩; have B2 := Lib.hid (B1.out.trans (hb.mono B1.out.size)); have G2 := Lib.hid (G1.out.keep hb); clear hb B1 G1))
  go_ret
  exact ⟨rfl, B2.out⟩
set_option maxHeartbeats 2000000 in
set_option maxRecDepth 20000 in
theorem ring_e3 (a b c : ByteArray) (E : Int) 
    (d0 : decide ((41 : Int) < (a.size : Int)) = false)
    (d1 : decide ((41 : Int) < (b.size : Int)) = false)
    (d2 : decide ((41 : Int) < (c.size : Int)) = false)
    (dE : (E != 0) = true)
    (C0 : ∀ w, Gl w → Calls Tryz.prog 10 #[] w fun e w' => e = .returned (.bool true) ∧ Below w.heap.size w w')
    (C1 : ∀ w, Gl w → Calls Tryz.prog 12 #[.string a] w fun e w' => e = .returned (.int .i64 E) ∧ Below w.heap.size w w')
    (C2 : ∀ w, Gl w → Calls Tryz.prog 10 #[] w fun e w' => e = .returned (.bool true) ∧ Below w.heap.size w w')
    (w : World) (hg : Gl w) : Calls Tryz.prog 8 #[.string a, .string b, .string c] w fun e w' => e = .returned (.bool true) ∧ Below w.heap.size w w' := by
  have D0 := Lib.hid C0; clear C0
  have D1 := Lib.hid C1; clear C1
  have D2 := Lib.hid C2; clear C2
  have G0 := Lib.hid hg
  have B0 := Lib.hid (Below.refl w.heap.size w); clear hg
  go_enter Tryz.func8, Tryz.ntmps8
  go_wp2_with (first
    | (go_at_call 10; (with_reducible refine (D0.out _ G0.out).mono ?_); rintro e w1 ⟨rfl, hb⟩; have B1 := Lib.hid (B0.out.trans (hb.mono B0.out.size)); have G1 := Lib.hid (G0.out.keep hb); clear hb B0 G0)
    | (go_at_call 12; (with_reducible refine (D1.out _ G1.out).mono ?_); rintro e w2 ⟨rfl, hb⟩; have B2 := Lib.hid (B1.out.trans (hb.mono B1.out.size)); have G2 := Lib.hid (G1.out.keep hb); clear hb B1 G1)
    | (go_at_call 10; (with_reducible refine (D2.out _ G2.out).mono ?_); rintro e w3 ⟨rfl, hb⟩; have B3 := Lib.hid (B2.out.trans (hb.mono B2.out.size)); have G3 := Lib.hid (G2.out.keep hb); clear hb B2 G2))
  go_ret
  exact ⟨rfl, B3.out⟩
set_option maxHeartbeats 2000000 in
set_option maxRecDepth 20000 in
theorem ring_e4 (a b c : ByteArray) (E : Int) 
    (d0 : decide ((41 : Int) < (a.size : Int)) = false)
    (d1 : decide ((41 : Int) < (b.size : Int)) = false)
    (d2 : decide ((41 : Int) < (c.size : Int)) = false)
    (dE : (E != 0) = true)
    (C0 : ∀ w, Gl w → Calls Tryz.prog 10 #[] w fun e w' => e = .returned (.bool true) ∧ Below w.heap.size w w')
    (C1 : ∀ w, Gl w → Calls Tryz.prog 12 #[.string a] w fun e w' => e = .returned (.int .i64 0) ∧ Below w.heap.size w w')
    (C2 : ∀ w, Gl w → Calls Tryz.prog 12 #[.string b] w fun e w' => e = .returned (.int .i64 E) ∧ Below w.heap.size w w')
    (C3 : ∀ w, Gl w → Calls Tryz.prog 10 #[] w fun e w' => e = .returned (.bool true) ∧ Below w.heap.size w w')
    (w : World) (hg : Gl w) : Calls Tryz.prog 8 #[.string a, .string b, .string c] w fun e w' => e = .returned (.bool true) ∧ Below w.heap.size w w' := by
  have D0 := Lib.hid C0; clear C0
  have D1 := Lib.hid C1; clear C1
  have D2 := Lib.hid C2; clear C2
  have D3 := Lib.hid C3; clear C3
  have G0 := Lib.hid hg
  have B0 := Lib.hid (Below.refl w.heap.size w); clear hg
  go_enter Tryz.func8, Tryz.ntmps8
  go_wp2_with (first
    | (go_at_call 10; (with_reducible refine (D0.out _ G0.out).mono ?_); rintro e w1 ⟨rfl, hb⟩; have B1 := Lib.hid (B0.out.trans (hb.mono B0.out.size)); have G1 := Lib.hid (G0.out.keep hb); clear hb B0 G0)
    | (go_at_call 12; (with_reducible refine (D1.out _ G1.out).mono ?_); rintro e w2 ⟨rfl, hb⟩; have B2 := Lib.hid (B1.out.trans (hb.mono B1.out.size)); have G2 := Lib.hid (G1.out.keep hb); clear hb B1 G1)
    | (go_at_call 12; (with_reducible refine (D2.out _ G2.out).mono ?_); rintro e w3 ⟨rfl, hb⟩; have B3 := Lib.hid (B2.out.trans (hb.mono B2.out.size)); have G3 := Lib.hid (G2.out.keep hb); clear hb B2 G2)
    | (go_at_call 10; (with_reducible refine (D3.out _ G3.out).mono ?_); rintro e w4 ⟨rfl, hb⟩; have B4 := Lib.hid (B3.out.trans (hb.mono B3.out.size)); have G4 := Lib.hid (G3.out.keep hb); clear hb B3 G3))
  go_ret
  exact ⟨rfl, B4.out⟩
set_option maxHeartbeats 2000000 in
set_option maxRecDepth 20000 in
theorem ring_e5 (a b c : ByteArray) (E : Int) 
    (d0 : decide ((41 : Int) < (a.size : Int)) = false)
    (d1 : decide ((41 : Int) < (b.size : Int)) = false)
    (d2 : decide ((41 : Int) < (c.size : Int)) = false)
    (dE : (E != 0) = true)
    (C0 : ∀ w, Gl w → Calls Tryz.prog 10 #[] w fun e w' => e = .returned (.bool true) ∧ Below w.heap.size w w')
    (C1 : ∀ w, Gl w → Calls Tryz.prog 12 #[.string a] w fun e w' => e = .returned (.int .i64 0) ∧ Below w.heap.size w w')
    (C2 : ∀ w, Gl w → Calls Tryz.prog 12 #[.string b] w fun e w' => e = .returned (.int .i64 0) ∧ Below w.heap.size w w')
    (C3 : ∀ w, Gl w → Calls Tryz.prog 12 #[.string c] w fun e w' => e = .returned (.int .i64 E) ∧ Below w.heap.size w w')
    (C4 : ∀ w, Gl w → Calls Tryz.prog 10 #[] w fun e w' => e = .returned (.bool true) ∧ Below w.heap.size w w')
    (w : World) (hg : Gl w) : Calls Tryz.prog 8 #[.string a, .string b, .string c] w fun e w' => e = .returned (.bool true) ∧ Below w.heap.size w w' := by
  have D0 := Lib.hid C0; clear C0
  have D1 := Lib.hid C1; clear C1
  have D2 := Lib.hid C2; clear C2
  have D3 := Lib.hid C3; clear C3
  have D4 := Lib.hid C4; clear C4
  have G0 := Lib.hid hg
  have B0 := Lib.hid (Below.refl w.heap.size w); clear hg
  go_enter Tryz.func8, Tryz.ntmps8
  go_wp2_with (first
    | (go_at_call 10; (with_reducible refine (D0.out _ G0.out).mono ?_); rintro e w1 ⟨rfl, hb⟩; have B1 := Lib.hid (B0.out.trans (hb.mono B0.out.size)); have G1 := Lib.hid (G0.out.keep hb); clear hb B0 G0)
    | (go_at_call 12; (with_reducible refine (D1.out _ G1.out).mono ?_); rintro e w2 ⟨rfl, hb⟩; have B2 := Lib.hid (B1.out.trans (hb.mono B1.out.size)); have G2 := Lib.hid (G1.out.keep hb); clear hb B1 G1)
    | (go_at_call 12; (with_reducible refine (D2.out _ G2.out).mono ?_); rintro e w3 ⟨rfl, hb⟩; have B3 := Lib.hid (B2.out.trans (hb.mono B2.out.size)); have G3 := Lib.hid (G2.out.keep hb); clear hb B2 G2)
    | (go_at_call 12; (with_reducible refine (D3.out _ G3.out).mono ?_); rintro e w4 ⟨rfl, hb⟩; have B4 := Lib.hid (B3.out.trans (hb.mono B3.out.size)); have G4 := Lib.hid (G3.out.keep hb); clear hb B3 G3)
    | (go_at_call 10; (with_reducible refine (D4.out _ G4.out).mono ?_); rintro e w5 ⟨rfl, hb⟩; have B5 := Lib.hid (B4.out.trans (hb.mono B4.out.size)); have G5 := Lib.hid (G4.out.keep hb); clear hb B4 G4))
  go_ret
  exact ⟨rfl, B5.out⟩
theorem check_ok {x : ByteArray} (h : Okz x) (w : World) (_ : Gl w) : Calls Tryz.prog 12 #[.string x] w fun e w' => e = .returned (.int .i64 0) ∧ Below w.heap.size w w' := by
  have := check_any x w; rwa [show ckL x.data.toList = 0 from h] at this
/-- the law of rings, at any three strings -/
theorem ring_any (a b c : ByteArray) (w : World) (hg : Gl w) : Calls Tryz.prog 8 #[.string a, .string b, .string c] w fun e w' => e = .returned (.bool true) ∧ Below w.heap.size w w' := by
  have W := awake_any
  by_cases ha : 41 < a.size
  · exact ring_e0 a b c (decide_eq_true (by omega)) W W w hg
  have da : decide ((41 : Int) < (a.size : Int)) = false := decide_eq_false (by omega)
  by_cases hb : 41 < b.size
  · exact ring_e1 a b c da (decide_eq_true (by omega)) W W w hg
  have db : decide ((41 : Int) < (b.size : Int)) = false := decide_eq_false (by omega)
  by_cases hc : 41 < c.size
  · exact ring_e2 a b c da db (decide_eq_true (by omega)) W W w hg
  have dc : decide ((41 : Int) < (c.size : Int)) = false := decide_eq_false (by omega)
  by_cases oa : ckL a.data.toList = 0
  · by_cases ob : ckL b.data.toList = 0
    · by_cases oc : ckL c.data.toList = 0
      · exact ring_ok a b c oa ob oc (by omega) (by omega) (by omega) w hg
      · exact ring_e5 a b c _ da db dc (by simpa using oc) W (fun w g => check_ok oa w g) (fun w g => check_ok ob w g) (fun w _ => check_any c w) W w hg
    · exact ring_e4 a b c _ da db dc (by simpa using ob) W (fun w g => check_ok oa w g) (fun w _ => check_any b w) W w hg
  · exact ring_e3 a b c _ da db dc (by simpa using oa) W (fun w _ => check_any a w) W w hg
end Go.Proofs.YtpbegoflpfdajaaGreatDoor

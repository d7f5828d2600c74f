/- WHAT IS PROVED: contracts of functions of the numbers package and laws for them, used by the last text of this claim. CONDITIONS: stated at each theorem. -/
import Derived.Test.YtpbegoflpfdajaaGreatDoorN47
import Derived.Deep.RegionWith
import Derived.Test.YtpbegoflpfdajaaGreatDoorN34
namespace Go.Proofs.YtpbegoflpfdajaaGreatDoor
section
open Go.RowKit
open Qd (lims)
set_option maxHeartbeats 2000000 in
set_option maxRecDepth 100000 in
theorem refPow_err (x : ByteArray) (n : Int) (sx : x.size <= 300) (h0 : firstE [ckL x.data.toList, if n < 0 ∨ 1000 < n then 3 else 0] ≠ 0) (w : World) : Calls Tryz.prog 32 #[.string x, .int .i64 n] w fun e w' => e = .returned (errT (firstE [ckL x.data.toList, if n < 0 ∨ 1000 < n then 3 else 0])) /\ Below w.heap.size w w' := by
  have Cx := Lib.hid (fun W => refCheck_any x (by omega) W)
  have CW := Lib.hid (fun b W => refWhen_any b 3 W)
  unfold errT
  obtain ⟨E1, h1⟩ : ∃ E, ckL x.data.toList = E := ⟨_, rfl⟩
  rw [h1] at Cx h0 ⊢
  rcases (show n < 0 ∨ (¬ n < 0 /\ 1000 < n) ∨ (¬ n < 0 /\ ¬ 1000 < n) by omega) with h | ⟨h, h'⟩ | ⟨h, h'⟩
  · rw [if_pos (Or.inl h)] at h0 ⊢
    have CWb := Lib.hid (CW.out true)
    rw [if_pos rfl] at CWb
    have d1 := decide_eq_true h
    obtain ⟨E, hE⟩ : ∃ E, firstE [E1, 3] = E := ⟨_, rfl⟩
    rw [hE] at h0 ⊢
    have d0 : (E != 0) = true := by simpa using h0
    clear h h0 h1 CW sx
    go_enter Tryz.func32, Tryz.ntmps32
    go_wp2_with (first
      | (go_at_call 13; (with_reducible refine (Cx.out _).mono ?_); rintro e wa ⟨rfl, hw⟩; subst wa)
      | (go_at_call 65; (with_reducible refine (CWb.out _).mono ?_); rintro e wb ⟨rfl, hw⟩; subst wb)
      | (go_at_call 79; (with_reducible refine (refFirst_any _ 2 2 [E1, 3] rfl (by omega) _ (pair_cells _ E1 3 3)).mono ?_); rintro e wc ⟨rfl, hw⟩; subst wc; rw [hE]))
    go_ret2
    exact ⟨rfl, (by repeat' first | exact Below.refl _ _ | assumption | refine Below.setCell ?_ ?_ _ | refine Below.alloc ?_ ?_ _ | refine below_drewN ?_ | refine Below.drew ?_ | (simp; done) | (simp; omega))⟩
  · rw [if_pos (Or.inr h')] at h0 ⊢
    have CWb := Lib.hid (CW.out true)
    rw [if_pos rfl] at CWb
    have d1 := decide_eq_false h
    have d2 := decide_eq_true h'
    obtain ⟨E, hE⟩ : ∃ E, firstE [E1, 3] = E := ⟨_, rfl⟩
    rw [hE] at h0 ⊢
    have d0 : (E != 0) = true := by simpa using h0
    clear h h' h0 h1 CW sx
    go_enter Tryz.func32, Tryz.ntmps32
    go_wp2_with (first
      | (go_at_call 13; (with_reducible refine (Cx.out _).mono ?_); rintro e wa ⟨rfl, hw⟩; subst wa)
      | (go_at_call 65; (with_reducible refine (CWb.out _).mono ?_); rintro e wb ⟨rfl, hw⟩; subst wb)
      | (go_at_call 79; (with_reducible refine (refFirst_any _ 2 2 [E1, 3] rfl (by omega) _ (pair_cells _ E1 3 3)).mono ?_); rintro e wc ⟨rfl, hw⟩; subst wc; rw [hE]))
    go_ret2
    exact ⟨rfl, (by repeat' first | exact Below.refl _ _ | assumption | refine Below.setCell ?_ ?_ _ | refine Below.alloc ?_ ?_ _ | refine below_drewN ?_ | refine Below.drew ?_ | (simp; done) | (simp; omega))⟩
  · rw [if_neg (by omega)] at h0 ⊢
    have CWb := Lib.hid (CW.out false)
    rw [if_neg (by decide)] at CWb
    have d1 := decide_eq_false h
    have d2 := decide_eq_false h'
    obtain ⟨E, hE⟩ : ∃ E, firstE [E1, 0] = E := ⟨_, rfl⟩
    rw [hE] at h0 ⊢
    have d0 : (E != 0) = true := by simpa using h0
    clear h h' h0 h1 CW sx
    go_enter Tryz.func32, Tryz.ntmps32
    go_wp2_with (first
      | (go_at_call 13; (with_reducible refine (Cx.out _).mono ?_); rintro e wa ⟨rfl, hw⟩; subst wa)
      | (go_at_call 65; (with_reducible refine (CWb.out _).mono ?_); rintro e wb ⟨rfl, hw⟩; subst wb)
      | (go_at_call 79; (with_reducible refine (refFirst_any _ 2 2 [E1, 0] rfl (by omega) _ (pair_cells _ E1 0 3)).mono ?_); rintro e wc ⟨rfl, hw⟩; subst wc; rw [hE]))
    go_ret2
    exact ⟨rfl, (by repeat' first | exact Below.refl _ _ | assumption | refine Below.setCell ?_ ?_ _ | refine Below.alloc ?_ ?_ _ | refine below_drewN ?_ | refine Below.drew ?_ | (simp; done) | (simp; omega))⟩
set_option maxHeartbeats 4000000 in
set_option maxRecDepth 100000 in
theorem refPow_ok (x : ByteArray) (N : Nat) (hN : N <= 1000) (sx : x.size <= 300) (o1 : Okz x) (w : World) : Calls Tryz.prog 32 #[.string x, .int .i64 N] w fun e w' => e = .returned (resI (vz x ^ N)) /\ Below w.heap.size w w' := by
  have Cx := Lib.hid (fun W => refCheck_any x (by omega) W)
  have e1 : ckL x.data.toList = 0 := o1
  rw [e1] at Cx
  have CWb := Lib.hid (fun W => refWhen_any false 3 W)
  rw [show (if false = true then (3 : Int) else 0) = 0 from rfl] at CWb
  have hf2 : firstE [(0 : Int), 0] = 0 := rfl
  have C1 := Lib.hid (fun W => refSmall_any 1 (by omega) (by omega) W)
  have Rx := Lib.hid (fun W => refReadZ x o1 W)
  have b1 := lsz_okz o1
  obtain ⟨X, hX⟩ : ∃ X, vz x = X := ⟨_, rfl⟩
  rw [hX] at Rx b1 ⊢
  have hBig := Lib.hid (fun j (h : ¬ (X ^ j).natAbs < 10 ^ 120) (hj : j <= N) => pow_big (X := X) hj h)
  have CT := Lib.hid (fun W v1 v2 j (h : (X ^ j).natAbs < 10 ^ 120) (g1 : BigAt W v1 (X ^ j)) (g2 : BigAt W v2 X) => refTimes_any v1 v2 (X ^ j) X (by have := lsz_fit h; omega) (by omega) W g1 g2)
  have CR := Lib.hid (fun W v j (h : (X ^ j).natAbs < 10 ^ 120) (g : BigAt W v (X ^ (j + 1))) => refResult_any v (X ^ (j + 1)) (by rw [Int.pow_succ]; exact Nat.le_trans (lsz_mul (X ^ j) X (lsz_fit h) b1) (by omega)) W g)
  have CL := Lib.hid (fun W v (h : (X ^ N).natAbs < 10 ^ 120) (g : BigAt W v (X ^ N)) => refResult_any v (X ^ N) (by have := lsz_fit h; omega) W g)
  have d1 : decide ((N : Int) < 0) = false := by simp
  have d2 : decide ((1000 : Int) < (N : Int)) = false := by simp; omega
  obtain ⟨ra, rb, hR⟩ := resI_two (X ^ N)
  rw [hR] at CL ⊢
  have HRes := Lib.hid hR
  clear o1 e1 sx b1 hX hR
  go_enter Tryz.func32, Tryz.ntmps32
  go_wp2_with (first
      | (go_at_call 13; (with_reducible refine (Cx.out _).mono ?_); rintro e wa ⟨rfl, hw⟩; subst wa)
      | (go_at_call 65; (with_reducible refine (CWb.out _).mono ?_); rintro e wb ⟨rfl, hw⟩; subst wb)
      | (go_at_call 79; (with_reducible refine (refFirst_any _ 2 2 [(0 : Int), 0] rfl (by omega) _ (pair_cells _ 0 0 3)).mono ?_); rintro e wc ⟨rfl, hw⟩; subst wc; rw [hf2])
      | (go_at_call 68; (with_reducible refine (C1.out _).mono ?_); rintro e w1 ⟨v1, rfl, hg1, hb1⟩; obtain ⟨b3, p3, k3, c3, rfl⟩ := hg1.shape; have hl1 := Below.trans (a := w) (B := w.heap.size) (by repeat' first | exact Below.refl _ _ | assumption | refine Below.setCell ?_ ?_ _ | refine Below.alloc ?_ ?_ _ | refine below_drewN ?_ | refine Below.drew ?_ | (simp; done) | (simp; omega)) (Below.mono hb1 (Below.size (B := w.heap.size) (w := w) (by repeat' first | exact Below.refl _ _ | assumption | refine Below.setCell ?_ ?_ _ | refine Below.alloc ?_ ?_ _ | refine below_drewN ?_ | refine Below.drew ?_ | (simp; done) | (simp; omega)))); clear hb1)
      | (go_at_call 70; (with_reducible refine (Rx.out _).mono ?_); rintro e w2 ⟨v2, rfl, hg2, hb2⟩; obtain ⟨b4, p4, k4, c4, rfl⟩ := hg2.shape; have hl2 := Below.trans hl1 (Below.mono hb2 (Below.size hl1)); have hg1' := hg1.keep hb2; clear hb2))
  have hb4 : Below w2.heap.size w2 ((w2.alloc (.cells #[.bool b3, .slice p3 k3 c3] 74)).alloc (.cells #[.bool b4, .slice p4 k4 c4] 74)) := (by repeat' first | exact Below.refl _ _ | assumption | refine Below.setCell ?_ ?_ _ | refine Below.alloc ?_ ?_ _ | refine below_drewN ?_ | refine Below.drew ?_ | (simp; done) | (simp; omega))
  have hP : Pws w w2.heap.size (X ^ 0) X b3 (.slice p3 k3 c3) b4 (.slice p4 k4 c4) ((w2.alloc (.cells #[.bool b3, .slice p3 k3 c3] 74)).alloc (.cells #[.bool b4, .slice p4 k4 c4] 74)) := by
    obtain ⟨⟨c0, c1⟩, ⟨e0, e1⟩, _, _⟩ := cells2 w2 (.bool b3) (.slice p3 k3 c3) (.bool b4) (.slice p4 k4 c4) 74 74
    exact { c0 := c0, c1 := c1, d0 := e0, d1 := e1, f0 := by go_simp, f1 := by go_simp, g7 := by rw [Int.pow_zero]; exact hg1'.keep hb4, g8 := hg2.keep hb4, low := hl2.trans (hb4.mono hl2.size), above := hl2.size, size := by simp }
  have HP := Lib.hid hP
  have hH := hl2.size
  clear hP hb4 hg1' hg2 hg1 hl1 hl2
  obtain ⟨H, hHe⟩ : ∃ H, w2.heap.size = H := ⟨_, rfl⟩
  rw [hHe] at HP
  generalize ((w2.alloc (Obj.cells #[.bool b3, .slice p3 k3 c3] 74)).alloc (Obj.cells #[.bool b4, .slice p4 k4 c4] 74)) = W4 at *
  simp only [hHe]
  go_loopw [9] (fun vi wr => ∃ j : Nat, ∃ b7 p7 k7 c7, j <= N /\ vi = .int .i64 j /\ (X ^ j).natAbs < 10 ^ 120 /\ Pws w H (X ^ j) X b7 (.slice p7 k7 c7) b4 (.slice p4 k4 c4) wr) (fun vi _ => N - (intOf vi).toNat)
  case atStart => exact ⟨0, b3, p3, k3, c3, by omega, rfl, by rw [Int.pow_zero]; decide, HP.out⟩
  case round =>
    obtain ⟨j, b7, p7, k7, c7, hj, rfl, hfit, hP⟩ := hrel
    have HF := Lib.hid hfit; have HPW := Lib.hid hP
    obtain ⟨c0, c1, e0, e1, f0, f1, g7, g8, low, above, size⟩ := hP
    by_cases hlt : j < N
    · have dl : decide ((j : Int) < (N : Int)) = true := by simp; omega
      have CTj := Lib.hid (CT.out wr _ _ j HF.out g7 g8)
      rw [<- Int.pow_succ] at CTj
      clear hfit g7 g8 low above
      by_cases hf : (X ^ (j + 1)).natAbs < 10 ^ 120
      · have CRj := Lib.hid (fun W v (g : BigAt W v (X ^ (j + 1))) => by have := CR.out W v j HF.out g; rw [resI_fit hf] at this; exact this)
        have HF2 := Lib.hid hf
        clear hf
        obtain ⟨tt, htt⟩ : ∃ t, tz (X ^ (j + 1)) = t := ⟨_, rfl⟩
        rw [htt] at CRj
        go_wp2_with (first
          | (go_at_call 84; (with_reducible refine (CTj.out).mono ?_); rintro e w5 ⟨v5, rfl, hg5, hb5⟩; obtain ⟨b9, p9, k9, c9, rfl⟩ := hg5.shape; have hP5 := HPW.out.keep hb5; have hP6 := hP5.next hg5; have x0 := hP5.c0; have x1 := hP5.c1; have y0 := hP5.f0; have y1 := hP5.f1; have HP6 := Lib.hid hP6; clear hP5 hP6)
          | (go_at_call 75; (with_reducible refine (CRj.out _ _ HP6.out.g7).mono ?_); rintro e w6 ⟨rfl, hb6⟩; have HP7 := Lib.hid (HP6.out.keep hb6); clear hb6))
        go_roundw
        case rel => exact ⟨j + 1, b9, p9, k9, c9, by omega, by go_num, HF2.out, HP7.out⟩
        case measure => simp [intOf]; omega
      · have hb := hBig.out (j + 1) hf (by omega)
        have hR : Value.tuple #[ra, rb] = errT 4 := by rw [<- HRes.out]; unfold resI; rw [if_neg hb]
        have HR := Lib.hid hR
        have CRj := Lib.hid (fun W v (g : BigAt W v (X ^ (j + 1))) => by have := CR.out W v j HF.out g; rw [show resI (X ^ (j + 1)) = errT 4 by unfold resI; rw [if_neg hf]] at this; unfold errT at this; exact this)
        clear hf hb hR
        go_wp2_with (first
          | (go_at_call 84; (with_reducible refine (CTj.out).mono ?_); rintro e w5 ⟨v5, rfl, hg5, hb5⟩; obtain ⟨b9, p9, k9, c9, rfl⟩ := hg5.shape; have hP5 := HPW.out.keep hb5; have hP6 := hP5.next hg5; have x0 := hP5.c0; have x1 := hP5.c1; have y0 := hP5.f0; have y1 := hP5.f1; have HP6 := Lib.hid hP6; clear hP5 hP6)
          | (go_at_call 75; (with_reducible refine (CRj.out _ _ HP6.out.g7).mono ?_); rintro e w6 ⟨rfl, hb6⟩; have HP7 := Lib.hid (HP6.out.keep hb6); clear hb6))
        go_ret2
        exact ⟨by rw [HR.out]; rfl, HP7.out.low⟩
    · obtain rfl : j = N := by omega
      have dl : decide ((j : Int) < (j : Int)) = false := by simp
      have CLj := Lib.hid (CL.out wr _ HF.out g7)
      have HL := Lib.hid low
      clear hfit g7 g8 low above
      go_wp2_with (go_at_call 75; (with_reducible refine (CLj.out).mono ?_); rintro e w6 ⟨rfl, hb6⟩)
      go_ret2
      exact ⟨rfl, HL.out.trans (hb6.mono HL.out.size)⟩
end
section
open Go.RowKit
open Qd (lims)
def maxT : ByteArray := ⟨#[57, 50, 50, 51, 51, 55, 50, 48, 51, 54, 56, 53, 52, 55, 55, 53, 56, 48, 55]⟩
def minT : ByteArray := ⟨#[45, 57, 50, 50, 51, 51, 55, 50, 48, 51, 54, 56, 53, 52, 55, 55, 53, 56, 48, 56]⟩
theorem max_ok : Okz maxT := by unfold Okz; decide
theorem min_ok : Okz minT := by unfold Okz; decide
theorem max_vz : vz maxT = 9223372036854775807 := by decide
theorem min_vz : vz minT = -9223372036854775808 := by decide
set_option maxHeartbeats 4000000 in
set_option maxRecDepth 100000 in
theorem refToInt_err (x : ByteArray) (sx : x.size <= 300) (h0 : ckL x.data.toList ≠ 0) (w : World) : Calls Tryz.prog 17 #[.string x] w fun e w' => e = .returned (.tuple #[.int .i64 0, .int .i64 (ckL x.data.toList)]) /\ Below w.heap.size w w' := by
  have Cx := Lib.hid (fun W => refCheck_any x (by omega) W)
  obtain ⟨E, h1⟩ : ∃ E, ckL x.data.toList = E := ⟨_, rfl⟩
  rw [h1] at Cx h0 ⊢
  have d0 : (E != 0) = true := by simpa using h0
  clear h0 h1 sx
  go_enter Tryz.func17, Tryz.ntmps17
  go_wp2_with (first
      | (go_at_call 13; (with_reducible refine (Cx.out _).mono ?_); rintro e wa ⟨rfl, hw⟩; subst wa))
  go_ret2
  exact ⟨rfl, (by repeat' first | exact Below.refl _ _ | assumption | refine Below.setCell ?_ ?_ _ | refine Below.alloc ?_ ?_ _ | refine below_drewN ?_ | refine Below.drew ?_ | (simp; done) | (simp; omega))⟩
set_option maxHeartbeats 4000000 in
set_option maxRecDepth 100000 in
theorem refToInt_big (x : ByteArray) (sx : x.size <= 300) (o1 : Okz x) (hb : 9223372036854775807 < vz x) (w : World) : Calls Tryz.prog 17 #[.string x] w fun e w' => e = .returned (.tuple #[.int .i64 0, .int .i64 4]) /\ Below w.heap.size w w' := by
  have Cx := Lib.hid (fun W => refCheck_any x (by omega) W)
  have e1 : ckL x.data.toList = 0 := o1
  rw [e1] at Cx
  have Rx := Lib.hid (fun W => refReadZ x o1 W)
  have RM := Lib.hid (fun W => by have := refReadZ maxT max_ok W; rw [max_vz] at this; exact this)
  unfold maxT at RM
  have b1 := lsz_okz o1
  have CO := Lib.hid (fun W v1 v2 (g1 : BigAt W v1 (vz x)) (g2 : BigAt W v2 9223372036854775807) => refOrder_any v1 v2 (vz x) 9223372036854775807 (by omega) (by have := lsz_i64 (n := 9223372036854775807) (by omega) (by omega); omega) W g1 g2)
  have hr : ocmp (vz x) 9223372036854775807 = 1 := by unfold ocmp; rw [if_neg (by omega), if_pos hb]
  rw [hr] at CO
  clear o1 e1 sx b1 hb hr
  go_enter Tryz.func17, Tryz.ntmps17
  go_wp2_with (first
      | (go_at_call 13; (with_reducible refine (Cx.out _).mono ?_); rintro e wa ⟨rfl, hw⟩; subst wa)
      | (go_at_call 70; (with_reducible refine (Rx.out _).mono ?_); rintro e w1 ⟨v1, rfl, hg1, hb1⟩; obtain ⟨b3, p3, k3, c3, rfl⟩ := hg1.shape; have hl1 := Below.trans (a := w) (B := w.heap.size) (by repeat' first | exact Below.refl _ _ | assumption | refine Below.setCell ?_ ?_ _ | refine Below.alloc ?_ ?_ _ | refine below_drewN ?_ | refine Below.drew ?_ | (simp; done) | (simp; omega)) (Below.mono hb1 (Below.size (B := w.heap.size) (w := w) (by repeat' first | exact Below.refl _ _ | assumption | refine Below.setCell ?_ ?_ _ | refine Below.alloc ?_ ?_ _ | refine below_drewN ?_ | refine Below.drew ?_ | (simp; done) | (simp; omega)))); clear hb1))
  have t50 : (w1.alloc (.cells #[.bool b3, .slice p3 k3 c3] 74)).cell? ⟨w1.heap.size, 0, none⟩ = some (.bool b3) := by go_simp
  have t51 : (w1.alloc (.cells #[.bool b3, .slice p3 k3 c3] 74)).cell? ⟨w1.heap.size, 1, none⟩ = some (.slice p3 k3 c3) := by go_simp
  have hg5 := hg1.keep (show Below w1.heap.size w1 (w1.alloc (.cells #[.bool b3, .slice p3 k3 c3] 74)) from (by repeat' first | exact Below.refl _ _ | assumption | refine Below.setCell ?_ ?_ _ | refine Below.alloc ?_ ?_ _ | refine below_drewN ?_ | refine Below.drew ?_ | (simp; done) | (simp; omega)))
  have hl5 : Below w.heap.size w (w1.alloc (.cells #[.bool b3, .slice p3 k3 c3] 74)) := hl1.alloc hl1.size _
  have hs5 : (w1.alloc (.cells #[.bool b3, .slice p3 k3 c3] 74)).heap.size = w1.heap.size + 1 := by simp
  generalize w1.alloc (Obj.cells #[.bool b3, .slice p3 k3 c3] 74) = W5 at *
  go_region_with (first
      | (go_at_call 70; (with_reducible refine (RM.out _).mono ?_); rintro e w6 ⟨v6, rfl, hg6, hb6⟩; obtain ⟨b6, p6, k6, c6, rfl⟩ := hg6.shape; have hb6q := Below.trans (a := W5) (B := W5.heap.size) (by repeat' first | exact Below.refl _ _ | assumption | refine Below.setCell ?_ ?_ _ | refine Below.alloc ?_ ?_ _ | refine below_drewN ?_ | refine Below.drew ?_ | (simp; done) | (simp; omega)) (Below.mono hb6 (Below.size (B := W5.heap.size) (w := W5) (by repeat' first | exact Below.refl _ _ | assumption | refine Below.setCell ?_ ?_ _ | refine Below.alloc ?_ ?_ _ | refine below_drewN ?_ | refine Below.drew ?_ | (simp; done) | (simp; omega)))); have x50 := cell_kept t50 hb6q; have x51 := cell_kept t51 hb6q; have hg16 := hg5.keep hb6q)
      | (go_at_call 71; (with_reducible refine (CO.out _ _ _ hg16 hg6).mono ?_); rintro e w7 ⟨rfl, hb7⟩; have y50 := cell_kept x50 hb7; have y51 := cell_kept x51 hb7; have hb7q := hb6q.trans (hb7.mono hb6q.size); have hg17 := hg16.keep hb7))
  all_goals go_wp2_with fail
  all_goals go_ret2
  all_goals exact ⟨rfl, by have := hl5.trans (hb7q.mono hl5.size); exact (by repeat' first | exact Below.refl _ _ | assumption | refine Below.setCell ?_ ?_ _ | refine Below.alloc ?_ ?_ _ | refine below_drewN ?_ | refine Below.drew ?_ | (simp; done) | (simp; omega))⟩
end
section
open Go.RowKit
open Qd (lims)
set_option maxHeartbeats 4000000 in
set_option maxRecDepth 100000 in
theorem refToInt_small (x : ByteArray) (sx : x.size <= 300) (o1 : Okz x) (hb : vz x < -9223372036854775808) (w : World) : Calls Tryz.prog 17 #[.string x] w fun e w' => e = .returned (.tuple #[.int .i64 0, .int .i64 4]) /\ Below w.heap.size w w' := by
  have Cx := Lib.hid (fun W => refCheck_any x (by omega) W)
  have e1 : ckL x.data.toList = 0 := o1
  rw [e1] at Cx
  have Rx := Lib.hid (fun W => refReadZ x o1 W)
  have RM := Lib.hid (fun W => by have := refReadZ maxT max_ok W; rw [max_vz] at this; exact this)
  unfold maxT at RM
  have RN := Lib.hid (fun W => by have := refReadZ minT min_ok W; rw [min_vz] at this; exact this)
  unfold minT at RN
  have b1 := lsz_okz o1
  have CO := Lib.hid (fun W v1 v2 (g1 : BigAt W v1 (vz x)) (g2 : BigAt W v2 9223372036854775807) => refOrder_any v1 v2 (vz x) 9223372036854775807 (by omega) (by have := lsz_i64 (n := 9223372036854775807) (by omega) (by omega); omega) W g1 g2)
  have CO2 := Lib.hid (fun W v1 v2 (g1 : BigAt W v1 (vz x)) (g2 : BigAt W v2 (-9223372036854775808)) => refOrder_any v1 v2 (vz x) (-9223372036854775808) (by omega) (by have := lsz_i64 (n := -9223372036854775808) (by omega) (by omega); omega) W g1 g2)
  have hr1 : decide (0 < ocmp (vz x) 9223372036854775807) = false := by unfold ocmp; split; · rfl
                                                                        · rw [if_neg (by omega)]; rfl
  have hr2 : decide (ocmp (vz x) (-9223372036854775808) < 0) = true := by unfold ocmp; rw [if_pos hb]; rfl
  obtain ⟨r1, hr10⟩ : ∃ r, ocmp (vz x) 9223372036854775807 = r := ⟨_, rfl⟩
  obtain ⟨r2, hr20⟩ : ∃ r, ocmp (vz x) (-9223372036854775808) = r := ⟨_, rfl⟩
  rw [hr10] at CO hr1
  rw [hr20] at CO2 hr2
  clear o1 e1 sx b1 hb hr10 hr20
  go_enter Tryz.func17, Tryz.ntmps17
  go_wp2_with (first
      | (go_at_call 13; (with_reducible refine (Cx.out _).mono ?_); rintro e wa ⟨rfl, hw⟩; subst wa)
      | (go_at_call 70; (with_reducible refine (Rx.out _).mono ?_); rintro e w1 ⟨v1, rfl, hg1, hb1⟩; obtain ⟨b3, p3, k3, c3, rfl⟩ := hg1.shape; have hl1 := Below.trans (a := w) (B := w.heap.size) (by repeat' first | exact Below.refl _ _ | assumption | refine Below.setCell ?_ ?_ _ | refine Below.alloc ?_ ?_ _ | refine below_drewN ?_ | refine Below.drew ?_ | (simp; done) | (simp; omega)) (Below.mono hb1 (Below.size (B := w.heap.size) (w := w) (by repeat' first | exact Below.refl _ _ | assumption | refine Below.setCell ?_ ?_ _ | refine Below.alloc ?_ ?_ _ | refine below_drewN ?_ | refine Below.drew ?_ | (simp; done) | (simp; omega)))); clear hb1))
  have t50 : (w1.alloc (.cells #[.bool b3, .slice p3 k3 c3] 74)).cell? ⟨w1.heap.size, 0, none⟩ = some (.bool b3) := by go_simp
  have t51 : (w1.alloc (.cells #[.bool b3, .slice p3 k3 c3] 74)).cell? ⟨w1.heap.size, 1, none⟩ = some (.slice p3 k3 c3) := by go_simp
  have hg5 := hg1.keep (show Below w1.heap.size w1 (w1.alloc (.cells #[.bool b3, .slice p3 k3 c3] 74)) from (by repeat' first | exact Below.refl _ _ | assumption | refine Below.setCell ?_ ?_ _ | refine Below.alloc ?_ ?_ _ | refine below_drewN ?_ | refine Below.drew ?_ | (simp; done) | (simp; omega)))
  have hl5 : Below w.heap.size w (w1.alloc (.cells #[.bool b3, .slice p3 k3 c3] 74)) := hl1.alloc hl1.size _
  have hs5 : (w1.alloc (.cells #[.bool b3, .slice p3 k3 c3] 74)).heap.size = w1.heap.size + 1 := by simp
  generalize w1.alloc (Obj.cells #[.bool b3, .slice p3 k3 c3] 74) = W5 at *
  go_region_with (first
      | (go_at_call 70; (with_reducible refine (RM.out _).mono ?_); rintro e w6 ⟨v6, rfl, hg6, hb6⟩; obtain ⟨b6, p6, k6, c6, rfl⟩ := hg6.shape; have hb6q := Below.trans (a := W5) (B := W5.heap.size) (by repeat' first | exact Below.refl _ _ | assumption | refine Below.setCell ?_ ?_ _ | refine Below.alloc ?_ ?_ _ | refine below_drewN ?_ | refine Below.drew ?_ | (simp; done) | (simp; omega)) (Below.mono hb6 (Below.size (B := W5.heap.size) (w := W5) (by repeat' first | exact Below.refl _ _ | assumption | refine Below.setCell ?_ ?_ _ | refine Below.alloc ?_ ?_ _ | refine below_drewN ?_ | refine Below.drew ?_ | (simp; done) | (simp; omega)))); have x50 := cell_kept t50 hb6q; have x51 := cell_kept t51 hb6q; have hg16 := hg5.keep hb6q)
      | (go_at_call 71; (with_reducible refine (CO.out _ _ _ hg16 hg6).mono ?_); rintro e w7 ⟨rfl, hb7⟩; have y50 := cell_kept x50 hb7; have y51 := cell_kept x51 hb7; have hb7q := hb6q.trans (hb7.mono hb6q.size); have hg17 := hg16.keep hb7; have hf7 := hb7q.size)
      | (go_at_call 70; (with_reducible refine (RN.out _).mono ?_); rintro e w8 ⟨v8, rfl, hg8, hb8⟩; obtain ⟨b8, p8, k8, c8, rfl⟩ := hg8.shape; have hb8q := Below.trans (a := W5) (B := W5.heap.size) (b := w7) hb7q (by first | exact Below.mono hb8 hf7 | exact Below.trans (B := W5.heap.size) (by repeat' first | exact Below.refl _ _ | assumption | refine Below.setCell ?_ ?_ _ | refine Below.alloc ?_ ?_ _ | refine below_drewN ?_ | refine Below.drew ?_ | (simp; done) | (simp; omega)) (Below.mono hb8 (Below.size (B := W5.heap.size) (w := W5) (Below.trans hb7q (by repeat' first | exact Below.refl _ _ | assumption | refine Below.setCell ?_ ?_ _ | refine Below.alloc ?_ ?_ _ | refine below_drewN ?_ | refine Below.drew ?_ | (simp; done) | (simp; omega)))))); have hb78 : Below w7.heap.size w7 w8 := (by first | exact hb8 | exact Below.trans (B := w7.heap.size) (by repeat' first | exact Below.refl _ _ | assumption | refine Below.setCell ?_ ?_ _ | refine Below.alloc ?_ ?_ _ | refine below_drewN ?_ | refine Below.drew ?_ | (simp; done) | (simp; omega)) (Below.mono hb8 (Below.size (B := w7.heap.size) (w := w7) (by repeat' first | exact Below.refl _ _ | assumption | refine Below.setCell ?_ ?_ _ | refine Below.alloc ?_ ?_ _ | refine below_drewN ?_ | refine Below.drew ?_ | (simp; done) | (simp; omega))))); have z50 := cell_kept y50 hb78; have z51 := cell_kept y51 hb78; have hg18 := hg17.keep hb78)
      | (go_at_call 71; (with_reducible refine (CO2.out _ _ _ hg18 hg8).mono ?_); rintro e w9 ⟨rfl, hb9⟩; have u50 := cell_kept z50 hb9; have u51 := cell_kept z51 hb9; have hb9q := hb8q.trans (hb9.mono hb8q.size); have hg19 := hg18.keep hb9))
  all_goals go_wp2_with fail
  all_goals go_ret2
  all_goals exact ⟨rfl, by have := hl5.trans (hb9q.mono hl5.size); exact (by repeat' first | exact Below.refl _ _ | assumption | refine Below.setCell ?_ ?_ _ | refine Below.alloc ?_ ?_ _ | refine below_drewN ?_ | refine Below.drew ?_ | (simp; done) | (simp; omega))⟩
end
section
open Go.RowKit
open Qd (lims)
theorem BigAt.opened {w : World} {b : Bool} {p : Option Addr} {k c : Nat} {X : Int} (h : BigAt w (.agg #[.bool b, .slice p k c]) X) : b = decide (X < 0) /\ k = Qd.lsz X.natAbs /\ (k ≠ 0 -> ∃ g, p = some ⟨g, 0, none⟩ /\ ∀ i, i < k -> w.cell? ⟨g, i, none⟩ = some (.int .i64 (Qd.lim X.natAbs i : Nat))) := by
  obtain ⟨s, he, hm⟩ := h
  injection he with he
  have he := congrArg Array.toList he
  simp only [List.cons.injEq, and_true] at he
  obtain ⟨h1, h2⟩ := he
  injection h1 with h1
  obtain ⟨p', c', h3, _, hx⟩ := hm.parts
  rw [<- h2] at h3
  injection h3 with e1 e2 e3
  refine ⟨h1, e2, fun hk => ?_⟩
  obtain ⟨g, hg, _, hc⟩ := hx (by omega)
  exact ⟨g, by rw [e1, hg], fun i hi => hc i (by omega)⟩
structure Down (X : Int) (K : Nat) (vn vi : Value) : Prop where
  is : (vi = .int .i64 (-1) /\ vn = .int .i64 X) ∨ ∃ j N : Nat, j < K /\ vi = .int .i64 (j : Nat) /\ vn = .int .i64 (if X < 0 then -(N : Int) else N) /\ X.natAbs / Qd.bb ^ (j + 1) = N
theorem Down.begin (X : Int) {K : Nat} (h : K = Qd.lsz X.natAbs) : Down X K (.int .i64 0) (.int .i64 ((K : Int) - 1)) := ⟨by
  by_cases h0 : K = 0
  · left
    have : X.natAbs = 0 := Qd.lsz_eq_zero.1 (by omega)
    exact ⟨by rw [h0]; rfl, by congr 1; omega⟩
  · right
    refine ⟨K - 1, 0, by omega, by congr 1; omega, by congr 1; split <;> rfl, ?_⟩
    rw [show K - 1 + 1 = K by omega, h]
    exact Nat.div_eq_of_lt (Qd.lsz_lt _)⟩
theorem Down.next {X : Int} {K j N : Nat} (hj : j < K) (hN : X.natAbs / Qd.bb ^ (j + 1) = N) (v : Int) (hv : v = if X < 0 then -((N * 10000 + Qd.lim X.natAbs j : Nat) : Int) else ((N * 10000 + Qd.lim X.natAbs j : Nat) : Int)) : Down X K (.int .i64 v) (.int .i64 ((j : Int) - 1)) := ⟨by
  have h := rq_head X.natAbs 0 j
  rw [hN] at h
  have h : X.natAbs / Qd.bb ^ j = N * 10000 + Qd.lim X.natAbs j := h
  rw [<- h] at hv
  rw [hv]
  cases j with
  | zero =>
    left
    refine ⟨rfl, ?_⟩
    congr 1
    simp only [Nat.pow_zero, Nat.div_one]
    split <;> omega
  | succ i => exact Or.inr ⟨i, _, by omega, by congr 1; omega, rfl, rfl⟩⟩
theorem Down.bound {X : Int} {j N : Nat} (hN : X.natAbs / Qd.bb ^ (j + 1) = N) : N * 10000 + Qd.lim X.natAbs j <= X.natAbs := by
  have h := rq_head X.natAbs 0 j
  rw [hN] at h
  have h : X.natAbs / Qd.bb ^ j = N * 10000 + Qd.lim X.natAbs j := h
  rw [<- h]
  exact Nat.div_le_self _ _
set_option maxHeartbeats 4000000 in
set_option maxRecDepth 100000 in
theorem refToInt_ok (x : ByteArray) (sx : x.size <= 300) (o1 : Okz x) (hlo : -9223372036854775808 <= vz x) (hhi : vz x <= 9223372036854775807) (w : World) : Calls Tryz.prog 17 #[.string x] w fun e w' => e = .returned (.tuple #[.int .i64 (vz x), .int .i64 0]) /\ Below w.heap.size w w' := by
  have Cx := Lib.hid (fun W => refCheck_any x (by omega) W)
  have e1 : ckL x.data.toList = 0 := o1
  rw [e1] at Cx
  have Rx := Lib.hid (fun W => refReadZ x o1 W)
  have RM := Lib.hid (fun W => by have := refReadZ maxT max_ok W; rw [max_vz] at this; exact this)
  unfold maxT at RM
  have RN := Lib.hid (fun W => by have := refReadZ minT min_ok W; rw [min_vz] at this; exact this)
  unfold minT at RN
  have b1 := lsz_okz o1
  have CO := Lib.hid (fun W v1 v2 (g1 : BigAt W v1 (vz x)) (g2 : BigAt W v2 9223372036854775807) => refOrder_any v1 v2 (vz x) 9223372036854775807 (by omega) (by have := lsz_i64 (n := 9223372036854775807) (by omega) (by omega); omega) W g1 g2)
  have CO2 := Lib.hid (fun W v1 v2 (g1 : BigAt W v1 (vz x)) (g2 : BigAt W v2 (-9223372036854775808)) => refOrder_any v1 v2 (vz x) (-9223372036854775808) (by omega) (by have := lsz_i64 (n := -9223372036854775808) (by omega) (by omega); omega) W g1 g2)
  have hr1 : decide (0 < ocmp (vz x) 9223372036854775807) = false := by unfold ocmp; split; · rfl
                                                                        · rw [if_neg (by omega)]; rfl
  have hr2 : decide (ocmp (vz x) (-9223372036854775808) < 0) = false := by unfold ocmp; rw [if_neg (by omega)]; split <;> rfl
  obtain ⟨r1, hr10⟩ : ∃ r, ocmp (vz x) 9223372036854775807 = r := ⟨_, rfl⟩
  obtain ⟨r2, hr20⟩ : ∃ r, ocmp (vz x) (-9223372036854775808) = r := ⟨_, rfl⟩
  rw [hr10] at CO hr1
  rw [hr20] at CO2 hr2
  obtain ⟨X, hX⟩ : ∃ X, vz x = X := ⟨_, rfl⟩
  rw [hX] at Rx CO CO2 hlo hhi ⊢
  clear o1 e1 sx hX b1 hr10 hr20
  go_enter Tryz.func17, Tryz.ntmps17
  go_wp2_with (first
      | (go_at_call 13; (with_reducible refine (Cx.out _).mono ?_); rintro e wa ⟨rfl, hw⟩; subst wa)
      | (go_at_call 70; (with_reducible refine (Rx.out _).mono ?_); rintro e w1 ⟨v1, rfl, hg1, hb1⟩; obtain ⟨b3, p3, k3, c3, rfl⟩ := hg1.shape; have hl1 := Below.trans (a := w) (B := w.heap.size) (by repeat' first | exact Below.refl _ _ | assumption | refine Below.setCell ?_ ?_ _ | refine Below.alloc ?_ ?_ _ | refine below_drewN ?_ | refine Below.drew ?_ | (simp; done) | (simp; omega)) (Below.mono hb1 (Below.size (B := w.heap.size) (w := w) (by repeat' first | exact Below.refl _ _ | assumption | refine Below.setCell ?_ ?_ _ | refine Below.alloc ?_ ?_ _ | refine below_drewN ?_ | refine Below.drew ?_ | (simp; done) | (simp; omega)))); clear hb1))
  have t50 : (w1.alloc (.cells #[.bool b3, .slice p3 k3 c3] 74)).cell? ⟨w1.heap.size, 0, none⟩ = some (.bool b3) := by go_simp
  have t51 : (w1.alloc (.cells #[.bool b3, .slice p3 k3 c3] 74)).cell? ⟨w1.heap.size, 1, none⟩ = some (.slice p3 k3 c3) := by go_simp
  have hg5 := hg1.keep (show Below w1.heap.size w1 (w1.alloc (.cells #[.bool b3, .slice p3 k3 c3] 74)) from (by repeat' first | exact Below.refl _ _ | assumption | refine Below.setCell ?_ ?_ _ | refine Below.alloc ?_ ?_ _ | refine below_drewN ?_ | refine Below.drew ?_ | (simp; done) | (simp; omega)))
  have hl5 : Below w.heap.size w (w1.alloc (.cells #[.bool b3, .slice p3 k3 c3] 74)) := hl1.alloc hl1.size _
  have hs5 : (w1.alloc (.cells #[.bool b3, .slice p3 k3 c3] 74)).heap.size = w1.heap.size + 1 := by simp
  generalize w1.alloc (Obj.cells #[.bool b3, .slice p3 k3 c3] 74) = W5 at *
  go_region_with (first
      | (go_at_call 70; (with_reducible refine (RM.out _).mono ?_); rintro e w6 ⟨v6, rfl, hg6, hb6⟩; obtain ⟨b6, p6, k6, c6, rfl⟩ := hg6.shape; have hb6q := Below.trans (a := W5) (B := W5.heap.size) (by repeat' first | exact Below.refl _ _ | assumption | refine Below.setCell ?_ ?_ _ | refine Below.alloc ?_ ?_ _ | refine below_drewN ?_ | refine Below.drew ?_ | (simp; done) | (simp; omega)) (Below.mono hb6 (Below.size (B := W5.heap.size) (w := W5) (by repeat' first | exact Below.refl _ _ | assumption | refine Below.setCell ?_ ?_ _ | refine Below.alloc ?_ ?_ _ | refine below_drewN ?_ | refine Below.drew ?_ | (simp; done) | (simp; omega)))); have x50 := cell_kept t50 hb6q; have x51 := cell_kept t51 hb6q; have hg16 := hg5.keep hb6q)
      | (go_at_call 71; (with_reducible refine (CO.out _ _ _ hg16 hg6).mono ?_); rintro e w7 ⟨rfl, hb7⟩; have y50 := cell_kept x50 hb7; have y51 := cell_kept x51 hb7; have hb7q := hb6q.trans (hb7.mono hb6q.size); have hg17 := hg16.keep hb7; have hf7 := hb7q.size)
      | (go_at_call 70; (with_reducible refine (RN.out _).mono ?_); rintro e w8 ⟨v8, rfl, hg8, hb8⟩; obtain ⟨b8, p8, k8, c8, rfl⟩ := hg8.shape; have hb8q := Below.trans (a := W5) (B := W5.heap.size) (b := w7) hb7q (by first | exact Below.mono hb8 hf7 | exact Below.trans (B := W5.heap.size) (by repeat' first | exact Below.refl _ _ | assumption | refine Below.setCell ?_ ?_ _ | refine Below.alloc ?_ ?_ _ | refine below_drewN ?_ | refine Below.drew ?_ | (simp; done) | (simp; omega)) (Below.mono hb8 (Below.size (B := W5.heap.size) (w := W5) (Below.trans hb7q (by repeat' first | exact Below.refl _ _ | assumption | refine Below.setCell ?_ ?_ _ | refine Below.alloc ?_ ?_ _ | refine below_drewN ?_ | refine Below.drew ?_ | (simp; done) | (simp; omega)))))); have hb78 : Below w7.heap.size w7 w8 := (by first | exact hb8 | exact Below.trans (B := w7.heap.size) (by repeat' first | exact Below.refl _ _ | assumption | refine Below.setCell ?_ ?_ _ | refine Below.alloc ?_ ?_ _ | refine below_drewN ?_ | refine Below.drew ?_ | (simp; done) | (simp; omega)) (Below.mono hb8 (Below.size (B := w7.heap.size) (w := w7) (by repeat' first | exact Below.refl _ _ | assumption | refine Below.setCell ?_ ?_ _ | refine Below.alloc ?_ ?_ _ | refine below_drewN ?_ | refine Below.drew ?_ | (simp; done) | (simp; omega))))); have z50 := cell_kept y50 hb78; have z51 := cell_kept y51 hb78; have hg18 := hg17.keep hb78)
      | (go_at_call 71; (with_reducible refine (CO2.out _ _ _ hg18 hg8).mono ?_); rintro e w9 ⟨rfl, hb9⟩; have v50 := cell_kept z50 hb9; have v51 := cell_kept z51 hb9; have hb9q := hb8q.trans (hb9.mono hb8q.size); have hg19 := hg18.keep hb9))
  all_goals go_wp2_with fail
  all_goals
    obtain ⟨hb3, hk3, hx3⟩ := hg19.opened
    have hE := hl5.trans (hb9q.mono hl5.size)
    clear hg19 hg18 hg17 hg16 hg8 hg6 hg5 hg1
  all_goals
    have hk5 : k3 <= 5 := by
      rw [hk3]
      refine (Qd.lsz_le_iff _ _).2 ?_
      have : Qd.bb ^ 5 = 100000000000000000000 := by decide
      rw [this]; omega
    clear z50 y50 x50 z51 y51 x51 t50 t51 hb9q hb78 hb8q hf7 hb7q hb6q hb7 hb6 hb8 hb9 hl5 hl1 RM RN CO CO2 Rx Cx hr1 hr2
  all_goals
    go_loopw [6, 7] (fun vn vi wr => wr = w9 /\ Down X k3 vn vi) (fun _ vi _ => (intOf vi + 1).toNat)
    case atStart => exact ⟨rfl, by rw [show wrap64 ((k3 : Int) - 1) = (k3 : Int) - 1 by unfold wrap64; omega]; exact Down.begin X hk3⟩
    case round =>
      obtain ⟨rfl, hd⟩ := hrel
      rcases hd.is with ⟨rfl, rfl⟩ | ⟨j, N, hj, rfl, rfl, hN⟩
      · clear hd hx3
        go_wp2
        go_ret2
        exact ⟨rfl, hE⟩
      · obtain ⟨g, rfl, hxg⟩ := hx3 (by omega)
        have cx := hxg j hj
        have hbd := Down.bound hN
        have hnx := Lib.hid (@Down.next X k3 j N hj hN)
        clear hx3 hxg hd hk3 hN
        have d1 : decide (0 <= (j : Int)) = true := by simp
        generalize Qd.lim X.natAbs j = y at *
        by_cases hs : X < 0
        · rw [if_pos hs] 
          rw [decide_eq_true hs] at hb3
          subst hb3
          go_wp2
          go_roundw
          case rel => exact ⟨by first | rfl | trivial, hnx.out _ (by rw [if_pos hs]; omega)⟩
          case measure => simp [intOf]
        · rw [if_neg hs] 
          rw [decide_eq_false hs] at hb3
          subst hb3
          go_wp2
          go_roundw
          case rel => exact ⟨by first | rfl | trivial, hnx.out _ (by rw [if_neg hs]; omega)⟩
          case measure => simp [intOf]
end
section
open Go.RowKit
open Go.Lib (decDigits nDigits decDigits_length)
end
section
open Go.RowKit
open Go.Lib (decDigits nDigits decDigits_length)
end
section
open Go.RowKit
open Go.Lib (decDigits nDigits decDigits_length)
end
end Go.Proofs.YtpbegoflpfdajaaGreatDoor
/- WHAT IS PROVED: contracts of functions of the numbers package and laws for them, used by the last text of this claim. CONDITIONS: stated at each theorem. -/
import Derived.Test.YtpbegoflpfdajaaGreatDoorN41
namespace Go.Proofs.YtpbegoflpfdajaaGreatDoor
section
open Go.RowKit
open Qd (lims)
theorem lsz_okz {x : ByteArray} (h : Okz x) : Qd.lsz (vz x).natAbs <= 30 := by
  refine (Qd.lsz_le_iff 30 _).2 ?_
  rw [bb_ten4, vz_abs]
  obtain ⟨h1, h2, _, h4⟩ := okz_parts h
  exact Nat.lt_of_lt_of_le (valL_lt _ h2) (Nat.pow_le_pow_right (by omega) h4)
theorem lsz_add (z1 z2 : Int) {k : Nat} (h1 : Qd.lsz z1.natAbs <= k) (h2 : Qd.lsz z2.natAbs <= k) : Qd.lsz (z1 + z2).natAbs <= k + 1 :=
  Nat.le_trans (Qd.lsz_mono (Int.natAbs_add_le z1 z2)) (Qd.lsz_add_le h1 h2)
theorem lsz_sub (z1 z2 : Int) {k : Nat} (h1 : Qd.lsz z1.natAbs <= k) (h2 : Qd.lsz z2.natAbs <= k) : Qd.lsz (z1 - z2).natAbs <= k + 1 := by
  have := lsz_add z1 (-z2) h1 (by rw [natAbs_neg']; exact h2)
  rwa [<- Int.sub_eq_add_neg] at this
theorem lsz_mul (z1 z2 : Int) {j k : Nat} (h1 : Qd.lsz z1.natAbs <= j) (h2 : Qd.lsz z2.natAbs <= k) : Qd.lsz (z1 * z2).natAbs <= j + k + 1 := by
  rw [Int.natAbs_mul]
  have := (Qd.lsz_le_iff (Qd.lsz z1.natAbs + Qd.lsz z2.natAbs + 1) _).2 (Qd.mul_lsz z1.natAbs z2.natAbs)
  omega
theorem refReadZ (x : ByteArray) (h : Okz x) (w : World) : Calls Tryz.prog 70 #[.string x] w fun e w' => ∃ v, e = .returned v /\ BigAt w' v (vz x) /\ Below w.heap.size w w' := by
  obtain ⟨h1, h2, h3, h4⟩ := okz_parts h
  rcases noMinus_cases x.data.toList with ⟨t, ht, hn⟩ | ⟨hh, hn⟩
  · rw [hn] at h1 h2 h4
    have := refRead_m x t ht h2 h1 (by omega) w
    have hv : vz x = -(valL t : Int) := by
      unfold vz intM intS sgn intM
      rw [hn, ht]
      by_cases h0 : valL t = 0
      · simp [h0]
      · simp [h0]
    rw [hv]; exact this
  · rw [hn] at h1 h2 h4
    have := refRead_p x x.data.toList rfl hh h2 h1 (by omega) w
    have hv : vz x = (valL x.data.toList : Int) := by
      unfold vz intM intS sgn intM
      rw [hn, show (x.data.toList.head? == some 45) = false by simpa using hh]
      rfl
    rw [hv]; exact this
set_option maxHeartbeats 1000000 in
theorem refFirst_any (g n c : Nat) (xs : List Int) (hn : xs.length = n) (h63 : n <= 1000) (w : World) (hx : ∀ i (h : i < xs.length), w.cell? ⟨g, i, none⟩ = some (.int .i64 xs[i])) :
    Calls Tryz.prog 79 #[.slice (some ⟨g, 0, none⟩) n c] w fun e w' => e = .returned (.int .i64 (firstE xs)) /\ w' = w := by
  have Hx := Lib.hid hx; have Hn := Lib.hid hn
  clear hx hn
  go_enter Tryz.func79, Tryz.ntmps79
  go_wp2
  go_loop [3] (fun i => ∃ k : Nat, i = .int .i64 k /\ k <= n /\ firstE (xs.drop k) = firstE xs) (fun i => n - (intOf i).toNat)
  case atStart => exact ⟨0, rfl, by omega, rfl⟩
  case round =>
    obtain ⟨k, rfl, hk, hf⟩ := hrel
    have Hf := Lib.hid hf; clear hf
    by_cases h : k < n
    · have hkx : k < xs.length := by have := Hn.out; omega
      have hc := Hx.out k hkx
      have hs := firstE_drop xs k hkx
      rw [Hf.out] at hs
      obtain ⟨x, hxk⟩ : ∃ x, xs[k] = x := ⟨_, rfl⟩
      rw [hxk] at hc hs
      have d1 : decide ((k : Int) < (n : Int)) = true := by simp; omega
      by_cases h0 : x = 0
      · rw [if_pos h0] at hs
        have d2 : (x != 0) = false := by simp [h0]
        have Hs := Lib.hid hs
        clear hs hxk
        have H0 := Lib.hid h0; clear h0
        go_wp2
        go_round
        case rel => exact ⟨k + 1, by go_num, by omega, Hs.out.symm⟩
        case measure => simp [intOf]; omega
      · rw [if_neg h0] at hs
        have d2 : (x != 0) = true := by simp [h0]
        have Hs := Lib.hid hs
        clear hs hxk h0
        go_wp2
        go_ret
        exact ⟨by rw [Hs.out]; rfl, rfl⟩
    · obtain rfl : k = n := by omega
      have d1 : decide ((k : Int) < (k : Int)) = false := by simp
      have hs := Hf.out
      rw [List.drop_of_length_le (by have := Hn.out; omega)] at hs
      have Hs := Lib.hid hs; clear hs
      go_wp2
      go_ret
      exact ⟨by rw [<- Hs.out]; rfl, rfl⟩
end
section
open Go.RowKit
open Qd (lims)
theorem pair_cells (w : World) (a b : Int) (t : TypeId) (i : Nat) (h : i < [a, b].length) : (w.alloc (.cells #[.int .i64 a, .int .i64 b] t)).cell? ⟨w.heap.size, i, none⟩ = some (.int .i64 [a, b][i]) := by
  match i, h with
  | 0, _ => simp
  | 1, _ => simp
set_option maxHeartbeats 2000000 in
set_option maxRecDepth 100000 in
theorem refAdd_any (x y : ByteArray) (sx : x.size <= 300) (sy : y.size <= 300) (w : World) : Calls Tryz.prog 22 #[.string x, .string y] w fun e w' => e = .returned (resI2 x y (vz x + vz y)) /\ Below w.heap.size w w' := by
  have Cx := Lib.hid (fun W => refCheck_any x (by omega) W)
  have Cy := Lib.hid (fun W => refCheck_any y (by omega) W)
  unfold resI2
  have hz : ckL2 x y = 0 -> Okz x /\ Okz y := ckL2_zero
  unfold ckL2 at hz ⊢
  obtain ⟨E1, h1⟩ : ∃ E, ckL x.data.toList = E := ⟨_, rfl⟩
  obtain ⟨E2, h2⟩ : ∃ E, ckL y.data.toList = E := ⟨_, rfl⟩
  rw [h1] at Cx hz ⊢
  rw [h2] at Cy hz ⊢
  obtain ⟨E, hE⟩ : ∃ E, firstE [E1, E2] = E := ⟨_, rfl⟩
  rw [hE] at hz ⊢
  clear h1 h2 sx sy
  by_cases h0 : E = 0
  · obtain ⟨o1, o2⟩ := hz h0
    rw [if_pos h0]
    subst h0
    have b1 := lsz_okz o1
    have b2 := lsz_okz o2
    have Rx := Lib.hid (fun W => refReadZ x o1 W)
    have Ry := Lib.hid (fun W => refReadZ y o2 W)
    have COP := Lib.hid (fun W v1 v2 (g1 : BigAt W v1 (vz x)) (g2 : BigAt W v2 (vz y)) => refPlus_any v1 v2 (vz x) (vz y) (by omega) (by omega) W g1 g2)
    have C75 := Lib.hid (fun W v (g : BigAt W v (vz x + vz y)) => refResult_any v (vz x + vz y) (Nat.le_trans (lsz_add _ _ b1 b2) (by omega)) W g)
    obtain ⟨ra, rb, hR⟩ := resI_two (vz x + vz y)
    rw [hR]
    clear b1 b2 o1 o2 hz
    go_enter Tryz.func22, Tryz.ntmps22
    go_wp2_with (first
      | (go_at_call 13; (with_reducible refine (Cx.out _).mono ?_); rintro e wa ⟨rfl, hw⟩; subst wa)
      | (go_at_call 13; (with_reducible refine (Cy.out _).mono ?_); rintro e wb ⟨rfl, hw⟩; subst wb)
      | (go_at_call 79; (with_reducible refine (refFirst_any _ 2 2 [E1, E2] rfl (by omega) _ (pair_cells _ E1 E2 3)).mono ?_); rintro e wc ⟨rfl, hw⟩; subst wc; rw [hE])
      | (go_at_call 70; (with_reducible refine (Rx.out _).mono ?_); rintro e w1 ⟨v1, rfl, hg1, hb1⟩; obtain ⟨b3, p3, k3, c3, rfl⟩ := hg1.shape; have hl1 := Below.trans (a := w) (B := w.heap.size) (by repeat' first | exact Below.refl _ _ | assumption | refine Below.setCell ?_ ?_ _ | refine Below.alloc ?_ ?_ _ | refine below_drewN ?_ | refine Below.drew ?_ | (simp; done) | (simp; omega)) (Below.mono hb1 (Below.size (B := w.heap.size) (w := w) (by repeat' first | exact Below.refl _ _ | assumption | refine Below.setCell ?_ ?_ _ | refine Below.alloc ?_ ?_ _ | refine below_drewN ?_ | refine Below.drew ?_ | (simp; done) | (simp; omega)))); clear hb1)
      | (go_at_call 70; (with_reducible refine (Ry.out _).mono ?_); rintro e w2 ⟨v2, rfl, hg2, hb2⟩; obtain ⟨b4, p4, k4, c4, rfl⟩ := hg2.shape; have hl2 := Below.trans hl1 (Below.mono hb2 (Below.size hl1)); have hg1' := hg1.keep hb2; clear hb2)
      | (go_at_call 80; (with_reducible refine (COP.out _ _ _ hg1' hg2).mono ?_); rintro e w3 ⟨v3, rfl, hg3, hb3⟩; obtain ⟨b5, p5, k5, c5, rfl⟩ := hg3.shape; have hl3 := Below.trans hl2 (Below.mono hb3 (Below.size hl2)); clear hb3)
      | (go_at_call 75; (with_reducible refine (C75.out _ _ hg3).mono ?_); rintro e w4 ⟨rfl, hb4⟩; have hl4 := Below.trans hl3 (Below.mono hb4 (Below.size hl3)); rw [hR]))
    go_ret2
    exact ⟨rfl, hl4⟩
  · rw [if_neg h0]
    have d0 : (E != 0) = true := by simpa using h0
    clear hz h0
    go_enter Tryz.func22, Tryz.ntmps22
    go_wp2_with (first
      | (go_at_call 13; (with_reducible refine (Cx.out _).mono ?_); rintro e wa ⟨rfl, hw⟩; subst wa)
      | (go_at_call 13; (with_reducible refine (Cy.out _).mono ?_); rintro e wb ⟨rfl, hw⟩; subst wb)
      | (go_at_call 79; (with_reducible refine (refFirst_any _ 2 2 [E1, E2] rfl (by omega) _ (pair_cells _ E1 E2 3)).mono ?_); rintro e wc ⟨rfl, hw⟩; subst wc; rw [hE]))
    go_ret2
    exact ⟨rfl, (by repeat' first | exact Below.refl _ _ | assumption | refine Below.setCell ?_ ?_ _ | refine Below.alloc ?_ ?_ _ | refine below_drewN ?_ | refine Below.drew ?_ | (simp; done) | (simp; omega))⟩
set_option maxHeartbeats 2000000 in
set_option maxRecDepth 100000 in
theorem refSub_any (x y : ByteArray) (sx : x.size <= 300) (sy : y.size <= 300) (w : World) : Calls Tryz.prog 24 #[.string x, .string y] w fun e w' => e = .returned (resI2 x y (vz x - vz y)) /\ Below w.heap.size w w' := by
  have Cx := Lib.hid (fun W => refCheck_any x (by omega) W)
  have Cy := Lib.hid (fun W => refCheck_any y (by omega) W)
  unfold resI2
  have hz : ckL2 x y = 0 -> Okz x /\ Okz y := ckL2_zero
  unfold ckL2 at hz ⊢
  obtain ⟨E1, h1⟩ : ∃ E, ckL x.data.toList = E := ⟨_, rfl⟩
  obtain ⟨E2, h2⟩ : ∃ E, ckL y.data.toList = E := ⟨_, rfl⟩
  rw [h1] at Cx hz ⊢
  rw [h2] at Cy hz ⊢
  obtain ⟨E, hE⟩ : ∃ E, firstE [E1, E2] = E := ⟨_, rfl⟩
  rw [hE] at hz ⊢
  clear h1 h2 sx sy
  by_cases h0 : E = 0
  · obtain ⟨o1, o2⟩ := hz h0
    rw [if_pos h0]
    subst h0
    have b1 := lsz_okz o1
    have b2 := lsz_okz o2
    have Rx := Lib.hid (fun W => refReadZ x o1 W)
    have Ry := Lib.hid (fun W => refReadZ y o2 W)
    have COP := Lib.hid (fun W v1 v2 (g1 : BigAt W v1 (vz x)) (g2 : BigAt W v2 (vz y)) => refMinus_any v1 v2 (vz x) (vz y) (by omega) (by omega) W g1 g2)
    have C75 := Lib.hid (fun W v (g : BigAt W v (vz x - vz y)) => refResult_any v (vz x - vz y) (Nat.le_trans (lsz_sub _ _ b1 b2) (by omega)) W g)
    obtain ⟨ra, rb, hR⟩ := resI_two (vz x - vz y)
    rw [hR]
    clear b1 b2 o1 o2 hz
    go_enter Tryz.func24, Tryz.ntmps24
    go_wp2_with (first
      | (go_at_call 13; (with_reducible refine (Cx.out _).mono ?_); rintro e wa ⟨rfl, hw⟩; subst wa)
      | (go_at_call 13; (with_reducible refine (Cy.out _).mono ?_); rintro e wb ⟨rfl, hw⟩; subst wb)
      | (go_at_call 79; (with_reducible refine (refFirst_any _ 2 2 [E1, E2] rfl (by omega) _ (pair_cells _ E1 E2 3)).mono ?_); rintro e wc ⟨rfl, hw⟩; subst wc; rw [hE])
      | (go_at_call 70; (with_reducible refine (Rx.out _).mono ?_); rintro e w1 ⟨v1, rfl, hg1, hb1⟩; obtain ⟨b3, p3, k3, c3, rfl⟩ := hg1.shape; have hl1 := Below.trans (a := w) (B := w.heap.size) (by repeat' first | exact Below.refl _ _ | assumption | refine Below.setCell ?_ ?_ _ | refine Below.alloc ?_ ?_ _ | refine below_drewN ?_ | refine Below.drew ?_ | (simp; done) | (simp; omega)) (Below.mono hb1 (Below.size (B := w.heap.size) (w := w) (by repeat' first | exact Below.refl _ _ | assumption | refine Below.setCell ?_ ?_ _ | refine Below.alloc ?_ ?_ _ | refine below_drewN ?_ | refine Below.drew ?_ | (simp; done) | (simp; omega)))); clear hb1)
      | (go_at_call 70; (with_reducible refine (Ry.out _).mono ?_); rintro e w2 ⟨v2, rfl, hg2, hb2⟩; obtain ⟨b4, p4, k4, c4, rfl⟩ := hg2.shape; have hl2 := Below.trans hl1 (Below.mono hb2 (Below.size hl1)); have hg1' := hg1.keep hb2; clear hb2)
      | (go_at_call 82; (with_reducible refine (COP.out _ _ _ hg1' hg2).mono ?_); rintro e w3 ⟨v3, rfl, hg3, hb3⟩; obtain ⟨b5, p5, k5, c5, rfl⟩ := hg3.shape; have hl3 := Below.trans hl2 (Below.mono hb3 (Below.size hl2)); clear hb3)
      | (go_at_call 75; (with_reducible refine (C75.out _ _ hg3).mono ?_); rintro e w4 ⟨rfl, hb4⟩; have hl4 := Below.trans hl3 (Below.mono hb4 (Below.size hl3)); rw [hR]))
    go_ret2
    exact ⟨rfl, hl4⟩
  · rw [if_neg h0]
    have d0 : (E != 0) = true := by simpa using h0
    clear hz h0
    go_enter Tryz.func24, Tryz.ntmps24
    go_wp2_with (first
      | (go_at_call 13; (with_reducible refine (Cx.out _).mono ?_); rintro e wa ⟨rfl, hw⟩; subst wa)
      | (go_at_call 13; (with_reducible refine (Cy.out _).mono ?_); rintro e wb ⟨rfl, hw⟩; subst wb)
      | (go_at_call 79; (with_reducible refine (refFirst_any _ 2 2 [E1, E2] rfl (by omega) _ (pair_cells _ E1 E2 3)).mono ?_); rintro e wc ⟨rfl, hw⟩; subst wc; rw [hE]))
    go_ret2
    exact ⟨rfl, (by repeat' first | exact Below.refl _ _ | assumption | refine Below.setCell ?_ ?_ _ | refine Below.alloc ?_ ?_ _ | refine below_drewN ?_ | refine Below.drew ?_ | (simp; done) | (simp; omega))⟩
set_option maxHeartbeats 2000000 in
set_option maxRecDepth 100000 in
theorem refMul_any (x y : ByteArray) (sx : x.size <= 300) (sy : y.size <= 300) (w : World) : Calls Tryz.prog 26 #[.string x, .string y] w fun e w' => e = .returned (resI2 x y (vz x * vz y)) /\ Below w.heap.size w w' := by
  have Cx := Lib.hid (fun W => refCheck_any x (by omega) W)
  have Cy := Lib.hid (fun W => refCheck_any y (by omega) W)
  unfold resI2
  have hz : ckL2 x y = 0 -> Okz x /\ Okz y := ckL2_zero
  unfold ckL2 at hz ⊢
  obtain ⟨E1, h1⟩ : ∃ E, ckL x.data.toList = E := ⟨_, rfl⟩
  obtain ⟨E2, h2⟩ : ∃ E, ckL y.data.toList = E := ⟨_, rfl⟩
  rw [h1] at Cx hz ⊢
  rw [h2] at Cy hz ⊢
  obtain ⟨E, hE⟩ : ∃ E, firstE [E1, E2] = E := ⟨_, rfl⟩
  rw [hE] at hz ⊢
  clear h1 h2 sx sy
  by_cases h0 : E = 0
  · obtain ⟨o1, o2⟩ := hz h0
    rw [if_pos h0]
    subst h0
    have b1 := lsz_okz o1
    have b2 := lsz_okz o2
    have Rx := Lib.hid (fun W => refReadZ x o1 W)
    have Ry := Lib.hid (fun W => refReadZ y o2 W)
    have COP := Lib.hid (fun W v1 v2 (g1 : BigAt W v1 (vz x)) (g2 : BigAt W v2 (vz y)) => refTimes_any v1 v2 (vz x) (vz y) (by omega) (by omega) W g1 g2)
    have C75 := Lib.hid (fun W v (g : BigAt W v (vz x * vz y)) => refResult_any v (vz x * vz y) (Nat.le_trans (lsz_mul _ _ b1 b2) (by omega)) W g)
    obtain ⟨ra, rb, hR⟩ := resI_two (vz x * vz y)
    rw [hR]
    clear b1 b2 o1 o2 hz
    go_enter Tryz.func26, Tryz.ntmps26
    go_wp2_with (first
      | (go_at_call 13; (with_reducible refine (Cx.out _).mono ?_); rintro e wa ⟨rfl, hw⟩; subst wa)
      | (go_at_call 13; (with_reducible refine (Cy.out _).mono ?_); rintro e wb ⟨rfl, hw⟩; subst wb)
      | (go_at_call 79; (with_reducible refine (refFirst_any _ 2 2 [E1, E2] rfl (by omega) _ (pair_cells _ E1 E2 3)).mono ?_); rintro e wc ⟨rfl, hw⟩; subst wc; rw [hE])
      | (go_at_call 70; (with_reducible refine (Rx.out _).mono ?_); rintro e w1 ⟨v1, rfl, hg1, hb1⟩; obtain ⟨b3, p3, k3, c3, rfl⟩ := hg1.shape; have hl1 := Below.trans (a := w) (B := w.heap.size) (by repeat' first | exact Below.refl _ _ | assumption | refine Below.setCell ?_ ?_ _ | refine Below.alloc ?_ ?_ _ | refine below_drewN ?_ | refine Below.drew ?_ | (simp; done) | (simp; omega)) (Below.mono hb1 (Below.size (B := w.heap.size) (w := w) (by repeat' first | exact Below.refl _ _ | assumption | refine Below.setCell ?_ ?_ _ | refine Below.alloc ?_ ?_ _ | refine below_drewN ?_ | refine Below.drew ?_ | (simp; done) | (simp; omega)))); clear hb1)
      | (go_at_call 70; (with_reducible refine (Ry.out _).mono ?_); rintro e w2 ⟨v2, rfl, hg2, hb2⟩; obtain ⟨b4, p4, k4, c4, rfl⟩ := hg2.shape; have hl2 := Below.trans hl1 (Below.mono hb2 (Below.size hl1)); have hg1' := hg1.keep hb2; clear hb2)
      | (go_at_call 84; (with_reducible refine (COP.out _ _ _ hg1' hg2).mono ?_); rintro e w3 ⟨v3, rfl, hg3, hb3⟩; obtain ⟨b5, p5, k5, c5, rfl⟩ := hg3.shape; have hl3 := Below.trans hl2 (Below.mono hb3 (Below.size hl2)); clear hb3)
      | (go_at_call 75; (with_reducible refine (C75.out _ _ hg3).mono ?_); rintro e w4 ⟨rfl, hb4⟩; have hl4 := Below.trans hl3 (Below.mono hb4 (Below.size hl3)); rw [hR]))
    go_ret2
    exact ⟨rfl, hl4⟩
  · rw [if_neg h0]
    have d0 : (E != 0) = true := by simpa using h0
    clear hz h0
    go_enter Tryz.func26, Tryz.ntmps26
    go_wp2_with (first
      | (go_at_call 13; (with_reducible refine (Cx.out _).mono ?_); rintro e wa ⟨rfl, hw⟩; subst wa)
      | (go_at_call 13; (with_reducible refine (Cy.out _).mono ?_); rintro e wb ⟨rfl, hw⟩; subst wb)
      | (go_at_call 79; (with_reducible refine (refFirst_any _ 2 2 [E1, E2] rfl (by omega) _ (pair_cells _ E1 E2 3)).mono ?_); rintro e wc ⟨rfl, hw⟩; subst wc; rw [hE]))
    go_ret2
    exact ⟨rfl, (by repeat' first | exact Below.refl _ _ | assumption | refine Below.setCell ?_ ?_ _ | refine Below.alloc ?_ ?_ _ | refine below_drewN ?_ | refine Below.drew ?_ | (simp; done) | (simp; omega))⟩
set_option maxHeartbeats 2000000 in
set_option maxRecDepth 100000 in
theorem refCompare_any (x y : ByteArray) (sx : x.size <= 300) (sy : y.size <= 300) (w : World) : Calls Tryz.prog 30 #[.string x, .string y] w fun e w' => e = .returned ((if ckL2 x y = 0 then .tuple #[.int .i64 (ocmp (vz x) (vz y)), .int .i64 0] else .tuple #[.int .i64 0, .int .i64 (ckL2 x y)])) /\ Below w.heap.size w w' := by
  have Cx := Lib.hid (fun W => refCheck_any x (by omega) W)
  have Cy := Lib.hid (fun W => refCheck_any y (by omega) W)
  skip
  have hz : ckL2 x y = 0 -> Okz x /\ Okz y := ckL2_zero
  unfold ckL2 at hz ⊢
  obtain ⟨E1, h1⟩ : ∃ E, ckL x.data.toList = E := ⟨_, rfl⟩
  obtain ⟨E2, h2⟩ : ∃ E, ckL y.data.toList = E := ⟨_, rfl⟩
  rw [h1] at Cx hz ⊢
  rw [h2] at Cy hz ⊢
  obtain ⟨E, hE⟩ : ∃ E, firstE [E1, E2] = E := ⟨_, rfl⟩
  rw [hE] at hz ⊢
  clear h1 h2 sx sy
  by_cases h0 : E = 0
  · obtain ⟨o1, o2⟩ := hz h0
    rw [if_pos h0]
    subst h0
    have b1 := lsz_okz o1
    have b2 := lsz_okz o2
    have Rx := Lib.hid (fun W => refReadZ x o1 W)
    have Ry := Lib.hid (fun W => refReadZ y o2 W)
    have COP := Lib.hid (fun W v1 v2 (g1 : BigAt W v1 (vz x)) (g2 : BigAt W v2 (vz y)) => refOrder_any v1 v2 (vz x) (vz y) (by omega) (by omega) W g1 g2)
    clear b1 b2 o1 o2 hz
    go_enter Tryz.func30, Tryz.ntmps30
    go_wp2_with (first
      | (go_at_call 13; (with_reducible refine (Cx.out _).mono ?_); rintro e wa ⟨rfl, hw⟩; subst wa)
      | (go_at_call 13; (with_reducible refine (Cy.out _).mono ?_); rintro e wb ⟨rfl, hw⟩; subst wb)
      | (go_at_call 79; (with_reducible refine (refFirst_any _ 2 2 [E1, E2] rfl (by omega) _ (pair_cells _ E1 E2 3)).mono ?_); rintro e wc ⟨rfl, hw⟩; subst wc; rw [hE])
      | (go_at_call 70; (with_reducible refine (Rx.out _).mono ?_); rintro e w1 ⟨v1, rfl, hg1, hb1⟩; obtain ⟨b3, p3, k3, c3, rfl⟩ := hg1.shape; have hl1 := Below.trans (a := w) (B := w.heap.size) (by repeat' first | exact Below.refl _ _ | assumption | refine Below.setCell ?_ ?_ _ | refine Below.alloc ?_ ?_ _ | refine below_drewN ?_ | refine Below.drew ?_ | (simp; done) | (simp; omega)) (Below.mono hb1 (Below.size (B := w.heap.size) (w := w) (by repeat' first | exact Below.refl _ _ | assumption | refine Below.setCell ?_ ?_ _ | refine Below.alloc ?_ ?_ _ | refine below_drewN ?_ | refine Below.drew ?_ | (simp; done) | (simp; omega)))); clear hb1)
      | (go_at_call 70; (with_reducible refine (Ry.out _).mono ?_); rintro e w2 ⟨v2, rfl, hg2, hb2⟩; obtain ⟨b4, p4, k4, c4, rfl⟩ := hg2.shape; have hl2 := Below.trans hl1 (Below.mono hb2 (Below.size hl1)); have hg1' := hg1.keep hb2; clear hb2)
      | (go_at_call 71; (with_reducible refine (COP.out _ _ _ hg1' hg2).mono ?_); rintro e w3 ⟨rfl, hb3⟩; have hl3 := Below.trans hl2 (Below.mono hb3 (Below.size hl2)); clear hb3))
    go_ret2
    exact ⟨rfl, hl3⟩
  · rw [if_neg h0]
    have d0 : (E != 0) = true := by simpa using h0
    clear hz h0
    go_enter Tryz.func30, Tryz.ntmps30
    go_wp2_with (first
      | (go_at_call 13; (with_reducible refine (Cx.out _).mono ?_); rintro e wa ⟨rfl, hw⟩; subst wa)
      | (go_at_call 13; (with_reducible refine (Cy.out _).mono ?_); rintro e wb ⟨rfl, hw⟩; subst wb)
      | (go_at_call 79; (with_reducible refine (refFirst_any _ 2 2 [E1, E2] rfl (by omega) _ (pair_cells _ E1 E2 3)).mono ?_); rintro e wc ⟨rfl, hw⟩; subst wc; rw [hE]))
    go_ret2
    exact ⟨rfl, (by repeat' first | exact Below.refl _ _ | assumption | refine Below.setCell ?_ ?_ _ | refine Below.alloc ?_ ?_ _ | refine below_drewN ?_ | refine Below.drew ?_ | (simp; done) | (simp; omega))⟩
end
section
open Go.RowKit
open Qd (lims)
theorem refSmall_any (n : Int) (h1 : -9223372036854775808 <= n) (h2 : n <= 9223372036854775807) (w : World) : Calls Tryz.prog 68 #[.int .i64 n] w fun e w' => ∃ v, e = .returned v /\ BigAt w' v n /\ Below w.heap.size w w' := by
  by_cases h : 0 <= n
  · have := refSmall_pos n.natAbs (by omega) w
    rwa [show ((n.natAbs : Nat) : Int) = n by omega] at this
  · have := refSmall_neg n.natAbs (by omega) (by omega) w
    rwa [show -((n.natAbs : Nat) : Int) = n by omega] at this
theorem lsz_i64 {n : Int} (h1 : -9223372036854775808 <= n) (h2 : n <= 9223372036854775807) : Qd.lsz n.natAbs <= 5 := by
  refine (Qd.lsz_le_iff 5 _).2 ?_
  have : Qd.bb ^ 5 = 100000000000000000000 := rfl
  omega
set_option maxHeartbeats 1000000 in
theorem refFromInt_any (n : Int) (h1 : -9223372036854775808 <= n) (h2 : n <= 9223372036854775807) (w : World) : Calls Tryz.prog 15 #[.int .i64 n] w fun e w' => e = .returned (.string (tz n)) /\ Below w.heap.size w w' := by
  have C1 := Lib.hid (fun W => refSmall_any n h1 h2 W)
  have hl := lsz_i64 h1 h2
  have C2 := Lib.hid (fun W v g => refWrite_any v n (by omega) W g)
  clear hl
  go_enter Tryz.func15, Tryz.ntmps15
  go_wp2_with (first
    | (go_at_call 68; (with_reducible refine (C1.out _).mono ?_); rintro e w1 ⟨v1, rfl, hg1, hb1⟩; obtain ⟨b3, p3, k3, c3, rfl⟩ := hg1.shape; have hl1 := Below.trans (a := w) (B := w.heap.size) (by repeat' first | exact Below.refl _ _ | assumption | refine Below.setCell ?_ ?_ _ | refine Below.alloc ?_ ?_ _ | refine below_drewN ?_ | refine Below.drew ?_ | (simp; done) | (simp; omega)) (Below.mono hb1 (Below.size (B := w.heap.size) (w := w) (by repeat' first | exact Below.refl _ _ | assumption | refine Below.setCell ?_ ?_ _ | refine Below.alloc ?_ ?_ _ | refine below_drewN ?_ | refine Below.drew ?_ | (simp; done) | (simp; omega)))))
    | (go_at_call 67; (with_reducible refine (C2.out _ _ hg1).mono ?_); rintro e w2 ⟨rfl, hb2⟩; have hl2 := Below.trans hl1 (Below.mono hb2 (Below.size hl1))))
  go_ret
  exact ⟨rfl, hl2⟩
set_option maxHeartbeats 1000000 in
theorem refNeg_any (x : ByteArray) (sx : x.size <= 300) (w : World) : Calls Tryz.prog 19 #[.string x] w fun e w' => e = .returned (if ckL x.data.toList = 0 then resI (-vz x) else errT (ckL x.data.toList)) /\ Below w.heap.size w w' := by
  have Cx := Lib.hid (fun W => refCheck_any x (by omega) W)
  have hz : ckL x.data.toList = 0 -> Okz x := fun h => h
  obtain ⟨E, h1⟩ : ∃ E, ckL x.data.toList = E := ⟨_, rfl⟩
  rw [h1] at Cx hz ⊢
  clear h1 sx
  by_cases h0 : E = 0
  · have o1 := hz h0
    rw [if_pos h0]
    subst h0
    have b1 := lsz_okz o1
    have Rx := Lib.hid (fun W => refReadZ x o1 W)
    have COP := Lib.hid (fun W v1 (g1 : BigAt W v1 (vz x)) => refNegative_any v1 (vz x) (by omega) W g1)
    have C75 := Lib.hid (fun W v (g : BigAt W v (-vz x)) => refResult_any v (-vz x) (by rw [natAbs_neg']; omega) W g)
    obtain ⟨ra, rb, hR⟩ := resI_two (-vz x)
    rw [hR]
    clear b1 o1 hz
    go_enter Tryz.func19, Tryz.ntmps19
    go_wp2_with (first
      | (go_at_call 13; (with_reducible refine (Cx.out _).mono ?_); rintro e wa ⟨rfl, hw⟩; subst wa)
      | (go_at_call 70; (with_reducible refine (Rx.out _).mono ?_); rintro e w1 ⟨v1, rfl, hg1, hb1⟩; obtain ⟨b3, p3, k3, c3, rfl⟩ := hg1.shape; have hl1 := Below.trans (a := w) (B := w.heap.size) (by repeat' first | exact Below.refl _ _ | assumption | refine Below.setCell ?_ ?_ _ | refine Below.alloc ?_ ?_ _ | refine below_drewN ?_ | refine Below.drew ?_ | (simp; done) | (simp; omega)) (Below.mono hb1 (Below.size (B := w.heap.size) (w := w) (by repeat' first | exact Below.refl _ _ | assumption | refine Below.setCell ?_ ?_ _ | refine Below.alloc ?_ ?_ _ | refine below_drewN ?_ | refine Below.drew ?_ | (simp; done) | (simp; omega)))); clear hb1)
      | (go_at_call 76; (with_reducible refine (COP.out _ _ hg1).mono ?_); rintro e w3 ⟨v3, rfl, hg3, hb3⟩; obtain ⟨b5, p5, k5, c5, rfl⟩ := hg3.shape; have hl3 := Below.trans hl1 (Below.mono hb3 (Below.size hl1)); clear hb3)
      | (go_at_call 75; (with_reducible refine (C75.out _ _ hg3).mono ?_); rintro e w4 ⟨rfl, hb4⟩; have hl4 := Below.trans hl3 (Below.mono hb4 (Below.size hl3)); rw [hR]))
    go_ret2
    exact ⟨rfl, hl4⟩
  · rw [if_neg h0]
    have d0 : (E != 0) = true := by simpa using h0
    clear hz h0
    go_enter Tryz.func19, Tryz.ntmps19
    go_wp2_with (first
      | (go_at_call 13; (with_reducible refine (Cx.out _).mono ?_); rintro e wa ⟨rfl, hw⟩; subst wa))
    go_ret2
    exact ⟨rfl, (by repeat' first | exact Below.refl _ _ | assumption | refine Below.setCell ?_ ?_ _ | refine Below.alloc ?_ ?_ _ | refine below_drewN ?_ | refine Below.drew ?_ | (simp; done) | (simp; omega))⟩
end
end Go.Proofs.YtpbegoflpfdajaaGreatDoor
/- WHAT IS PROVED: contracts of functions of the numbers package and laws for them, used by the last text of this claim. CONDITIONS: stated at each theorem. -/
import Derived.Test.YtpbegoflpfdajaaGreatDoorN46
namespace Go.Proofs.YtpbegoflpfdajaaGreatDoor
section
open Go.RowKit
open Qd (lims)
theorem mags_unique {w : World} {v : Value} {n n' : Nat} (h : Mags w v n) (h' : Mags w v n') : n = n' := by
  obtain ⟨p, c, rfl, _, hx⟩ := Mg.parts h
  obtain ⟨p', c', he, _, hx'⟩ := Mg.parts h'
  injection he with e1 e2 e3
  subst e1
  have hl := Qd.lsz_lt n; have hl' := Qd.lsz_lt n'
  rw [<- e2] at hl'
  refine Qd.eq_of_lims hl hl' fun i hi => ?_
  obtain ⟨g, rfl, _, hc⟩ := hx (by omega)
  obtain ⟨g', hg', _, hc'⟩ := hx' (by omega)
  injection hg' with hg'
  injection hg' with hg'
  subst hg'
  have a := hc i hi
  have b := hc' i (by omega)
  rw [a] at b
  injection b with b
  injection b with _ b
  omega
structure Cmn (w : World) (B g m n : Nat) (v2 v3 : Value) (W : World) : Prop where
  a0 : W.cell? ⟨B, 0, none⟩ = some (.bool false)
  a1 : W.cell? ⟨B, 1, none⟩ = some v2
  b0 : W.cell? ⟨B + 1, 0, none⟩ = some (.bool false)
  b1 : W.cell? ⟨B + 1, 1, none⟩ = some v3
  r0 : W.cell? ⟨B + 1 + 1, 0, none⟩ = some (.bool false)
  r1 : W.cell? ⟨B + 1 + 1, 1, none⟩ = some (.slice none 0 0)
  f0 : W.frozen? ⟨B, 0, none⟩ = false
  f1 : W.frozen? ⟨B, 1, none⟩ = false
  f2 : W.frozen? ⟨B + 1, 0, none⟩ = false
  f3 : W.frozen? ⟨B + 1, 1, none⟩ = false
  f4 : W.frozen? ⟨B + 1 + 1, 0, none⟩ = false
  f5 : W.frozen? ⟨B + 1 + 1, 1, none⟩ = false
  m2 : Mags W v2 m
  m3 : Mags W v3 n
  gcd : Nat.gcd m n = g
  l2 : Qd.lsz m <= 5000
  l3 : Qd.lsz n <= 5000
  low : Below w.heap.size w W
  size : B + 1 + 1 < W.heap.size
theorem Cmn.keep {w W W' : World} {B g m n : Nat} {v2 v3 : Value} (h : Cmn w B g m n v2 v3 W) (hb : Below W.heap.size W W') : Cmn w B g m n v2 v3 W' := by
  obtain ⟨a0, a1, b0, b1, r0, r1, f0, f1, f2, f3, f4, f5, m2, m3, gcd, l2, l3, low, size⟩ := h
  exact { a0 := cell_kept a0 hb, a1 := cell_kept a1 hb, b0 := cell_kept b0 hb, b1 := cell_kept b1 hb, r0 := cell_kept r0 hb, r1 := cell_kept r1 hb, f0 := frozen_kept f0 hb (by simp; omega), f1 := frozen_kept f1 hb (by simp; omega), f2 := frozen_kept f2 hb (by simp; omega), f3 := frozen_kept f3 hb (by simp; omega), f4 := frozen_kept f4 hb (by simp; omega), f5 := frozen_kept f5 hb (by simp; omega), m2 := m2.keep hb, m3 := m3.keep hb, gcd := gcd, l2 := l2, l3 := l3, low := low.trans (hb.mono low.size), size := by have := hb.size; omega }
theorem Cmn.next {w W : World} {B g m n R : Nat} {v2 v3 u : Value} (h : Cmn w B g m n v2 v3 W) (hu : Mags W u R) (hR : R = m % n) (hB : w.heap.size <= B) : Cmn w B g n R v3 u ((((W.setCell ⟨B, 0, none⟩ (.bool false)).setCell ⟨B, 1, none⟩ v3).setCell ⟨B + 1, 0, none⟩ (.bool false)).setCell ⟨B + 1, 1, none⟩ u) := by
  obtain ⟨a0, a1, b0, b1, r0, r1, f0, f1, f2, f3, f4, f5, m2, m3, gcd, l2, l3, low, size⟩ := h
  have n1 : B ≠ B + 1 := by omega
  have n2 : B + 1 ≠ B := by omega
  have n3 : B + 1 + 1 ≠ B := by omega
  have n4 : B + 1 + 1 ≠ B + 1 := by omega
  have e0 : (W.setCell ⟨B, 0, none⟩ (.bool false)).cell? ⟨B, 0, none⟩ = some (.bool false) := World.cell?_setCell_same _ _ _ a0
  have e1 : (W.setCell ⟨B, 0, none⟩ (.bool false)).cell? ⟨B, 1, none⟩ = some v2 := set_cell a1 (by omega)
  have g0 : ((W.setCell ⟨B, 0, none⟩ (.bool false)).setCell ⟨B, 1, none⟩ v3).cell? ⟨B + 1, 0, none⟩ = some (.bool false) := cell_set (cell_set b0 n2) n2
  have g1 : ((W.setCell ⟨B, 0, none⟩ (.bool false)).setCell ⟨B, 1, none⟩ v3).cell? ⟨B + 1, 1, none⟩ = some v3 := cell_set (cell_set b1 n2) n2
  exact {
    a0 := cell_set (cell_set (set_cell e0 (by omega)) n1) n1
    a1 := cell_set (cell_set (World.cell?_setCell_same _ _ _ e1) n1) n1
    b0 := set_cell (World.cell?_setCell_same _ _ _ g0) (by omega)
    b1 := World.cell?_setCell_same _ _ _ (set_cell g1 (by omega))
    r0 := cell_set (cell_set (cell_set (cell_set r0 n3) n3) n4) n4
    r1 := cell_set (cell_set (cell_set (cell_set r1 n3) n3) n4) n4
    f0 := set_frozen (set_frozen (set_frozen (set_frozen f0)))
    f1 := set_frozen (set_frozen (set_frozen (set_frozen f1)))
    f2 := set_frozen (set_frozen (set_frozen (set_frozen f2)))
    f3 := set_frozen (set_frozen (set_frozen (set_frozen f3)))
    f4 := set_frozen (set_frozen (set_frozen (set_frozen f4)))
    f5 := set_frozen (set_frozen (set_frozen (set_frozen f5)))
    m2 := Mg.set2 (Mg.set2 m3 a0 _ _) g0 _ _
    m3 := Mg.set2 (Mg.set2 hu a0 _ _) g0 _ _
    gcd := by rw [hR, <- gcd, Nat.gcd_comm n (m % n), <- Nat.gcd_rec, Nat.gcd_comm]
    l2 := l3
    l3 := Nat.le_trans (Qd.lsz_mono (by rw [hR]; exact Nat.mod_le m n)) l2
    low := (((low.setCell (p := ⟨B, 0, none⟩) hB _).setCell (p := ⟨B, 1, none⟩) hB _).setCell (p := ⟨B + 1, 0, none⟩) (by simp; omega) _).setCell (p := ⟨B + 1, 1, none⟩) (by simp; omega) _
    size := by simpa using size }
theorem big_nat_inv {w : World} {u : Value} {k : Nat} (h : BigAt w u (k : Int)) : ∃ s, u = .agg #[.bool false, s] /\ Mags w s k := by
  obtain ⟨s, rfl, hs⟩ := h
  rw [abs_up] at hs
  exact ⟨s, by rw [decide_eq_false (show ¬ ((k : Int) < 0) by omega)], hs⟩
noncomputable def mgOf (W : World) (b : Nat) : Nat := Classical.epsilon fun n => ∃ v, W.cell? ⟨b, 1, none⟩ = some v /\ Mags W v n
theorem mgOf_eq {W : World} {b n : Nat} {v : Value} (h : W.cell? ⟨b, 1, none⟩ = some v) (hm : Mags W v n) : mgOf W b = n := by
  have : ∃ k, ∃ v, W.cell? ⟨b, 1, none⟩ = some v /\ Mags W v k := ⟨n, v, h, hm⟩
  obtain ⟨v', h', hm'⟩ := Classical.epsilon_spec this
  rw [h] at h'
  injection h' with h'
  subst h'
  exact mags_unique hm' hm
set_option maxHeartbeats 4000000 in
set_option maxRecDepth 100000 in
theorem refCommon_any (x y : Value) (z1 z2 : Int) (h1 : Qd.lsz z1.natAbs <= 5000) (h2 : Qd.lsz z2.natAbs <= 5000) (w : World) (hx : BigAt w x z1) (hy : BigAt w y z2) :
    Calls Tryz.prog 97 #[x, y] w fun e w' => ∃ v, e = .returned v /\ BigAt w' v (Nat.gcd z1.natAbs z2.natAbs : Nat) /\ Below w.heap.size w w' := by
  obtain ⟨s, rfl, hs⟩ := hx
  obtain ⟨t, rfl, ht⟩ := hy
  obtain ⟨m, hm⟩ : ∃ m, z1.natAbs = m := ⟨_, rfl⟩
  obtain ⟨n, hn⟩ : ∃ n, z2.natAbs = n := ⟨_, rfl⟩
  obtain ⟨b1, hb1⟩ : ∃ b, decide (z1 < 0) = b := ⟨_, rfl⟩
  obtain ⟨b2, hb2⟩ : ∃ b, decide (z2 < 0) = b := ⟨_, rfl⟩
  rw [hm] at hs h1 ⊢
  rw [hn] at ht h2 ⊢
  rw [hb1, hb2]
  obtain ⟨p, c1, rfl, _, _⟩ := hs.parts
  obtain ⟨q, d1, rfl, _, _⟩ := ht.parts
  clear hm hn hb1 hb2
  have hS := Lib.hid hs; have hT := Lib.hid ht; have H1 := Lib.hid h1; have H2 := Lib.hid h2
  clear hs ht h1 h2
  go_enter Tryz.func97, Tryz.ntmps97
  go_wp2
  go_loopw [] (fun wr => ∃ v2 v3 m' n', Cmn w w.heap.size (Nat.gcd m n) m' n' v2 v3 wr) (fun wr => mgOf wr (w.heap.size + 1))
  case atStart =>
    obtain ⟨⟨k00, k01⟩, ⟨k10, k11⟩, ⟨k20, k21⟩, kf0, kf1⟩ := cells3 w (.bool false) (.slice p (Qd.lsz m) c1) (.bool false) (.slice q (Qd.lsz n) d1) (.bool false) (.slice none 0 0) 74 74 74
    exact ⟨_, _, m, n, { a0 := k00, a1 := k01, b0 := k10, b1 := k11, r0 := k20, r1 := k21, f0 := by go_simp, f1 := by go_simp, f2 := by go_simp, f3 := by go_simp, f4 := kf0, f5 := kf1, m2 := hS.out.keep (by repeat' first | exact Below.refl _ _ | assumption | refine Below.setCell ?_ ?_ _ | refine Below.alloc ?_ ?_ _ | refine below_drewN ?_ | refine Below.drew ?_ | (simp; done) | (simp; omega)), m3 := hT.out.keep (by repeat' first | exact Below.refl _ _ | assumption | refine Below.setCell ?_ ?_ _ | refine Below.alloc ?_ ?_ _ | refine below_drewN ?_ | refine Below.drew ?_ | (simp; done) | (simp; omega)), gcd := rfl, l2 := H1.out, l3 := H2.out, low := (by repeat' first | exact Below.refl _ _ | assumption | refine Below.setCell ?_ ?_ _ | refine Below.alloc ?_ ?_ _ | refine below_drewN ?_ | refine Below.drew ?_ | (simp; done) | (simp; omega)), size := by simp }⟩
  case round =>
    obtain ⟨v2, v3, m', n', hC⟩ := hrel
    have HC := Lib.hid hC
    obtain ⟨a0, a1, b0, b1, r0, r1, f0, f1, f2, f3, f4, f5, m2, m3, gcd, l2, l3, low, size⟩ := hC
    obtain ⟨p2, c2, rfl, _, _⟩ := m2.parts
    obtain ⟨p3, c3, rfl, _, _⟩ := m3.parts
    by_cases h0 : n' = 0
    · have hk : Qd.lsz n' = 0 := by rw [h0]; exact Qd.lsz_zero
      have d0 : decide ((0 : Int) < ((Qd.lsz n' : Nat) : Int)) = false := by simp; omega
      have d0' : decide (0 < Qd.lsz n') = false := by simp; omega
      have hg : m' = Nat.gcd m n := by rw [<- gcd, h0, Nat.gcd_zero_right]
      have HG := Lib.hid hg
      clear gcd hg l2 l3 h0 hk
      go_wp2
      refine ret74 Tryz.results97 _ rfl (.bool false) (.slice p2 (Qd.lsz m') c2) (by go_simp) (by go_simp) rfl ?_
      refine ⟨_, rfl, big_nat ?_, (by repeat' first | exact Below.refl _ _ | assumption | refine Below.setCell ?_ ?_ _ | refine Below.alloc ?_ ?_ _ | refine below_drewN ?_ | refine Below.drew ?_ | (simp; done) | (simp; omega))⟩
      rw [<- HG.out]
      exact Mg.set2 m2 r0 _ _
    · have d0 : decide ((0 : Int) < ((Qd.lsz n' : Nat) : Int)) = true := by
        have : Qd.lsz n' ≠ 0 := fun e => h0 (Qd.lsz_eq_zero.1 e)
        simp; omega
      have d0' : decide (0 < Qd.lsz n') = true := by simpa using d0
      have CO := Lib.hid (refOver_any _ _ (m' : Int) (n' : Int) (by omega) (by rw [abs_up]; omega) (by rw [abs_up]; omega) wr (big_nat m2) (big_nat m3))
      have hmeas : mgOf wr (w.heap.size + 1) = n' := mgOf_eq b1 m3
      rw [hmeas]
      have HH := Lib.hid h0
      clear l2 l3 gcd h0 hmeas
      have hB4 := fun (w4 : World) (hb4 : Below wr.heap.size wr w4) => HC.out.keep hb4
      rw [<- (euclid_pp m' n' (by have := HH.out; omega)).2] at CO
      have hn0 : n' ≠ 0 := HH.out
      have HB4 := Lib.hid hB4
      have HN0 := Lib.hid hn0
      clear hB4 hn0 HH
      go_wp2_with (go_at_call 91; (with_reducible refine (CO.out).mono ?_); rintro e w4 ⟨v, u, rfl, hv, hu, hb4⟩; obtain ⟨b5, p5, k5, c5, rfl⟩ := hv.shape; obtain ⟨u6, rfl, hu6⟩ := big_nat_inv hu; obtain ⟨p6, c6, rfl, _, _⟩ := hu6.parts; have hC4 := HB4.out _ hb4; have q0 := hC4.a0; have q1 := hC4.a1; have q2 := hC4.b0; have q3 := hC4.b1; have q4 := hC4.r0; have q5 := hC4.r1; have g0 := hC4.f0; have g1 := hC4.f1; have g2 := hC4.f2; have g3 := hC4.f3; have hs4 := hC4.size; have HC4 := Lib.hid hC4; have HU := Lib.hid hu6; clear hC4 hu6 hu hv hb4)
      have hb5 : Below w4.heap.size w4 ((w4.alloc (.cells #[.bool b5, .slice p5 k5 c5] 74)).alloc (.cells #[.bool false, .slice p6 (Qd.lsz (m' % n')) c6] 74)) := (by repeat' first | exact Below.refl _ _ | assumption | refine Below.setCell ?_ ?_ _ | refine Below.alloc ?_ ?_ _ | refine below_drewN ?_ | refine Below.drew ?_ | (simp; done) | (simp; omega))
      have hC5 := HC4.out.keep hb5
      have hU5 := HU.out.keep hb5
      have t60 : ((w4.alloc (.cells #[.bool b5, .slice p5 k5 c5] 74)).alloc (.cells #[.bool false, .slice p6 (Qd.lsz (m' % n')) c6] 74)).cell? ⟨w4.heap.size + 1, 0, none⟩ = some (.bool false) := by go_simp
      have t61 : ((w4.alloc (.cells #[.bool b5, .slice p5 k5 c5] 74)).alloc (.cells #[.bool false, .slice p6 (Qd.lsz (m' % n')) c6] 74)).cell? ⟨w4.heap.size + 1, 1, none⟩ = some (.slice p6 (Qd.lsz (m' % n')) c6) := by go_simp
      generalize ((w4.alloc (Obj.cells #[.bool b5, .slice p5 k5 c5] 74)).alloc (Obj.cells #[.bool false, .slice p6 (Qd.lsz (m' % n')) c6] 74)) = W5 at *
      have HC5 := Lib.hid hC5; have HU5 := Lib.hid hU5
      have hlt : m' % n' < n' := Nat.mod_lt _ (by have := HN0.out; omega)
      obtain ⟨y0, y1, y2, y3, y4, y5, x0, x1, x2, x3, x4, x5, _, _, _, _, _, _, ysz⟩ := hC5
      have N1 : w4.heap.size + 1 ≠ w.heap.size := by omega
      have N2 : w4.heap.size + 1 ≠ w.heap.size + 1 := by omega
      clear q0 q1 q2 q3 q4 q5 g0 g1 g2 g3 hb5 a0 a1 b0 b1 r0 r1 f0 f1 f2 f3 f4 f5 m2 m3 low hU5
      go_region
      all_goals go_wp2_with fail
      all_goals go_roundw
      all_goals have hN := HC5.out.next HU5.out rfl (Nat.le_refl _)
      case rel => exact ⟨_, _, n', m' % n', hN.keep (by repeat' first | exact Below.refl _ _ | assumption | refine Below.setCell ?_ ?_ _ | refine Below.alloc ?_ ?_ _ | refine below_drewN ?_ | refine Below.drew ?_ | (simp; done) | (simp; omega))⟩
      case measure =>
        have hN2 := hN.keep (Below.drew (Below.refl _ _))
        rw [mgOf_eq hN2.b1 hN2.m3]
        exact hlt
end
section
open Go.RowKit
open Qd (lims)
theorem lsz_gcd (a b : Int) {k : Nat} (h1 : Qd.lsz a.natAbs <= k) (h2 : Qd.lsz b.natAbs <= k) : Qd.lsz (((Nat.gcd a.natAbs b.natAbs : Nat) : Int)).natAbs <= k := by
  rw [abs_up]
  by_cases h0 : a.natAbs = 0
  · rw [h0, Nat.gcd_zero_left]; exact h2
  · exact Nat.le_trans (Qd.lsz_mono (Nat.gcd_le_left _ (by omega))) h1
set_option maxHeartbeats 2000000 in
set_option maxRecDepth 100000 in
theorem refGcd_any (x y : ByteArray) (sx : x.size <= 300) (sy : y.size <= 300) (w : World) : Calls Tryz.prog 34 #[.string x, .string y] w fun e w' => e = .returned (resI2 x y (((Nat.gcd (vz x).natAbs (vz y).natAbs : Nat) : Int))) /\ Below w.heap.size w w' := by
  have Cx := Lib.hid (fun W => refCheck_any x (by omega) W)
  have Cy := Lib.hid (fun W => refCheck_any y (by omega) W)
  unfold resI2
  have hz : ckL2 x y = 0 -> Okz x /\ Okz y := ckL2_zero
  unfold ckL2 at hz ⊢
  obtain ⟨E1, h1⟩ : ∃ E, ckL x.data.toList = E := ⟨_, rfl⟩
  obtain ⟨E2, h2⟩ : ∃ E, ckL y.data.toList = E := ⟨_, rfl⟩
  rw [h1] at Cx hz ⊢
  rw [h2] at Cy hz ⊢
  obtain ⟨E, hE⟩ : ∃ E, firstE [E1, E2] = E := ⟨_, rfl⟩
  rw [hE] at hz ⊢
  clear h1 h2 sx sy
  by_cases h0 : E = 0
  · obtain ⟨o1, o2⟩ := hz h0
    rw [if_pos h0]
    subst h0
    have b1 := lsz_okz o1
    have b2 := lsz_okz o2
    have Rx := Lib.hid (fun W => refReadZ x o1 W)
    have Ry := Lib.hid (fun W => refReadZ y o2 W)
    have COP := Lib.hid (fun W v1 v2 (g1 : BigAt W v1 (vz x)) (g2 : BigAt W v2 (vz y)) => refCommon_any v1 v2 (vz x) (vz y) (by omega) (by omega) W g1 g2)
    have C75 := Lib.hid (fun W v (g : BigAt W v (((Nat.gcd (vz x).natAbs (vz y).natAbs : Nat) : Int))) => refResult_any v (((Nat.gcd (vz x).natAbs (vz y).natAbs : Nat) : Int)) (Nat.le_trans (lsz_gcd _ _ b1 b2) (by omega)) W g)
    obtain ⟨ra, rb, hR⟩ := resI_two (((Nat.gcd (vz x).natAbs (vz y).natAbs : Nat) : Int))
    rw [hR]
    clear b1 b2 o1 o2 hz
    go_enter Tryz.func34, Tryz.ntmps34
    go_wp2_with (first
      | (go_at_call 13; (with_reducible refine (Cx.out _).mono ?_); rintro e wa ⟨rfl, hw⟩; subst wa)
      | (go_at_call 13; (with_reducible refine (Cy.out _).mono ?_); rintro e wb ⟨rfl, hw⟩; subst wb)
      | (go_at_call 79; (with_reducible refine (refFirst_any _ 2 2 [E1, E2] rfl (by omega) _ (pair_cells _ E1 E2 3)).mono ?_); rintro e wc ⟨rfl, hw⟩; subst wc; rw [hE])
      | (go_at_call 70; (with_reducible refine (Rx.out _).mono ?_); rintro e w1 ⟨v1, rfl, hg1, hb1⟩; obtain ⟨b3, p3, k3, c3, rfl⟩ := hg1.shape; have hl1 := Below.trans (a := w) (B := w.heap.size) (by repeat' first | exact Below.refl _ _ | assumption | refine Below.setCell ?_ ?_ _ | refine Below.alloc ?_ ?_ _ | refine below_drewN ?_ | refine Below.drew ?_ | (simp; done) | (simp; omega)) (Below.mono hb1 (Below.size (B := w.heap.size) (w := w) (by repeat' first | exact Below.refl _ _ | assumption | refine Below.setCell ?_ ?_ _ | refine Below.alloc ?_ ?_ _ | refine below_drewN ?_ | refine Below.drew ?_ | (simp; done) | (simp; omega)))); clear hb1)
      | (go_at_call 70; (with_reducible refine (Ry.out _).mono ?_); rintro e w2 ⟨v2, rfl, hg2, hb2⟩; obtain ⟨b4, p4, k4, c4, rfl⟩ := hg2.shape; have hl2 := Below.trans hl1 (Below.mono hb2 (Below.size hl1)); have hg1' := hg1.keep hb2; clear hb2)
      | (go_at_call 97; (with_reducible refine (COP.out _ _ _ hg1' hg2).mono ?_); rintro e w3 ⟨v3, rfl, hg3, hb3⟩; obtain ⟨b5, p5, k5, c5, rfl⟩ := hg3.shape; have hl3 := Below.trans hl2 (Below.mono hb3 (Below.size hl2)); clear hb3)
      | (go_at_call 75; (with_reducible refine (C75.out _ _ hg3).mono ?_); rintro e w4 ⟨rfl, hb4⟩; have hl4 := Below.trans hl3 (Below.mono hb4 (Below.size hl3)); rw [hR]))
    go_ret2
    exact ⟨rfl, hl4⟩
  · rw [if_neg h0]
    have d0 : (E != 0) = true := by simpa using h0
    clear hz h0
    go_enter Tryz.func34, Tryz.ntmps34
    go_wp2_with (first
      | (go_at_call 13; (with_reducible refine (Cx.out _).mono ?_); rintro e wa ⟨rfl, hw⟩; subst wa)
      | (go_at_call 13; (with_reducible refine (Cy.out _).mono ?_); rintro e wb ⟨rfl, hw⟩; subst wb)
      | (go_at_call 79; (with_reducible refine (refFirst_any _ 2 2 [E1, E2] rfl (by omega) _ (pair_cells _ E1 E2 3)).mono ?_); rintro e wc ⟨rfl, hw⟩; subst wc; rw [hE]))
    go_ret2
    exact ⟨rfl, (by repeat' first | exact Below.refl _ _ | assumption | refine Below.setCell ?_ ?_ _ | refine Below.alloc ?_ ?_ _ | refine below_drewN ?_ | refine Below.drew ?_ | (simp; done) | (simp; omega))⟩
end
section
open Go.RowKit
open Qd (lims)
theorem three_cells (w : World) (a b c : Int) (t : TypeId) (i : Nat) (h : i < [a, b, c].length) : (w.alloc (.cells #[.int .i64 a, .int .i64 b, .int .i64 c] t)).cell? ⟨w.heap.size, i, none⟩ = some (.int .i64 [a, b, c][i]) := by
  match i, h with
  | 0, _ => simp
  | 1, _ => simp
  | 2, _ => simp
theorem zero_text {y : ByteArray} (h : Okz y) : (y.toList == [48]) = decide (vz y = 0) := by
  rw [toList_data']
  by_cases h0 : vz y = 0
  · have := tz_vz h
    rw [h0] at this
    rw [decide_eq_true h0, <- this, tz_pos (Int.le_refl 0), show (0 : Int).natAbs = 0 from rfl, Lib.decDigits_one (by omega)]
    rfl
  · rw [decide_eq_false h0]
    rw [beq_eq_false_iff_ne]
    intro e
    exact h0 (by unfold vz intM intS; rw [e]; rfl)
theorem quot_fit {a : Int} (b : Int) (ha : a.natAbs < 10 ^ 120) : (a / b).natAbs < 10 ^ 120 := Nat.lt_of_le_of_lt (Int.natAbs_ediv_le_natAbs a b) ha
theorem rest_fit (a : Int) {b : Int} (h : b.natAbs < 10 ^ 120) (hb : b ≠ 0) : (a % b).natAbs < 10 ^ 120 := by
  have h1 := Int.emod_nonneg a hb
  have h2 := Int.emod_lt a hb
  exact Nat.lt_trans (by omega) h
theorem lsz_fit {z : Int} (h : z.natAbs < 10 ^ 120) : Qd.lsz z.natAbs <= 30 := (Qd.lsz_le_iff 30 _).2 (by rw [bb_ten4]; exact h)
theorem resI_fit {z : Int} (h : z.natAbs < 10 ^ 120) : resI z = .tuple #[.string (tz z), .int .i64 0] := by
  unfold resI
  rw [if_pos h]
  rfl
def ckD2 (x y : ByteArray) : Int := firstE [ckL x.data.toList, ckL y.data.toList, if y.toList == [48] then 30 else 0]
set_option maxHeartbeats 2000000 in
set_option maxRecDepth 100000 in
theorem refDivMod_err (x y : ByteArray) (sx : x.size <= 300) (sy : y.size <= 300) (h0 : ckD2 x y ≠ 0) (w : World) : Calls Tryz.prog 28 #[.string x, .string y] w fun e w' => e = .returned (.tuple #[.string ⟨#[]⟩, .string ⟨#[]⟩, .int .i64 (ckD2 x y)]) /\ Below w.heap.size w w' := by
  have Cx := Lib.hid (fun W => refCheck_any x (by omega) W)
  have Cy := Lib.hid (fun W => refCheck_any y (by omega) W)
  have CW := Lib.hid (fun b W => refWhen_any b 30 W)
  unfold ckD2 at h0 ⊢
  obtain ⟨E1, h1⟩ : ∃ E, ckL x.data.toList = E := ⟨_, rfl⟩
  obtain ⟨E2, h2⟩ : ∃ E, ckL y.data.toList = E := ⟨_, rfl⟩
  obtain ⟨b, hb⟩ : ∃ b, (y.toList == [48]) = b := ⟨_, rfl⟩
  obtain ⟨E3, h3⟩ : ∃ E : Int, (if b then 30 else 0) = E := ⟨_, rfl⟩
  have CWb := Lib.hid (CW.out b)
  rw [h3] at CWb
  rw [hb, h3] at h0 ⊢
  rw [h1] at Cx h0 ⊢
  rw [h2] at Cy h0 ⊢
  obtain ⟨E, hE⟩ : ∃ E, firstE [E1, E2, E3] = E := ⟨_, rfl⟩
  rw [hE] at h0 ⊢
  have d0 : (E != 0) = true := by simpa using h0
  clear h1 h2 h3 h0 CW sx sy
  go_enter Tryz.func28, Tryz.ntmps28
  go_wp2_with (first
      | (go_at_call 13; (with_reducible refine (Cx.out _).mono ?_); rintro e wa ⟨rfl, hw⟩; subst wa)
      | (go_at_call 13; (with_reducible refine (Cy.out _).mono ?_); rintro e wb ⟨rfl, hw⟩; subst wb)
      | (go_at_call 65; (with_reducible refine (CWb.out _).mono ?_); rintro e wb ⟨rfl, hw⟩; subst wb)
      | (go_at_call 79; (with_reducible refine (refFirst_any _ 3 3 [E1, E2, E3] rfl (by omega) _ (three_cells _ E1 E2 E3 3)).mono ?_); rintro e wc ⟨rfl, hw⟩; subst wc; rw [hE]))
  go_ret3
  exact ⟨rfl, (by repeat' first | exact Below.refl _ _ | assumption | refine Below.setCell ?_ ?_ _ | refine Below.alloc ?_ ?_ _ | refine below_drewN ?_ | refine Below.drew ?_ | (simp; done) | (simp; omega))⟩
set_option maxHeartbeats 4000000 in
set_option maxRecDepth 100000 in
theorem refDivMod_ok (x y : ByteArray) (sx : x.size <= 300) (sy : y.size <= 300) (o1 : Okz x) (o2 : Okz y) (h0 : vz y ≠ 0) (w : World) : Calls Tryz.prog 28 #[.string x, .string y] w fun e w' => e = .returned (.tuple #[.string (tz (vz x / vz y)), .string (tz (vz x % vz y)), .int .i64 0]) /\ Below w.heap.size w w' := by
  have Cx := Lib.hid (fun W => refCheck_any x (by omega) W)
  have Cy := Lib.hid (fun W => refCheck_any y (by omega) W)
  have CW := Lib.hid (fun W => refWhen_any false 30 W)
  rw [show (if false = true then (30 : Int) else 0) = 0 from rfl] at CW
  have e1 : ckL x.data.toList = 0 := o1
  have e2 : ckL y.data.toList = 0 := o2
  rw [e1] at Cx
  rw [e2] at Cy
  have hb : (y.toList == [48]) = false := by rw [zero_text o2]; exact decide_eq_false h0
  have f1 := okz_lim o1
  have f2 := okz_lim o2
  have fq := quot_fit (vz y) f1
  have fr := rest_fit (vz x) f2 h0
  have Rx := Lib.hid (fun W => refReadZ x o1 W)
  have Ry := Lib.hid (fun W => refReadZ y o2 W)
  have b1 := lsz_okz o1
  have b2 := lsz_okz o2
  have CO := Lib.hid (fun W v1 v2 (g1 : BigAt W v1 (vz x)) (g2 : BigAt W v2 (vz y)) => refOver_any v1 v2 (vz x) (vz y) h0 (by omega) (by omega) W g1 g2)
  have Cq := Lib.hid (fun W v (g : BigAt W v (vz x / vz y)) => by have := refResult_any v (vz x / vz y) (by have := lsz_fit fq; omega) W g; rw [resI_fit fq] at this; exact this)
  have Cr := Lib.hid (fun W v (g : BigAt W v (vz x % vz y)) => by have := refResult_any v (vz x % vz y) (by have := lsz_fit fr; omega) W g; rw [resI_fit fr] at this; exact this)
  have hf3 : firstE [(0 : Int), 0, 0] = 0 := rfl
  have hf2 : firstE [(0 : Int), 0] = 0 := rfl
  obtain ⟨tq, htq⟩ : ∃ t, tz (vz x / vz y) = t := ⟨_, rfl⟩
  obtain ⟨tr, htr⟩ : ∃ t, tz (vz x % vz y) = t := ⟨_, rfl⟩
  obtain ⟨q, hq⟩ : ∃ t, vz x / vz y = t := ⟨_, rfl⟩
  obtain ⟨r, hr⟩ : ∃ t, vz x % vz y = t := ⟨_, rfl⟩
  rw [htq] at Cq ⊢
  rw [htr] at Cr ⊢
  rw [hq] at Cq CO
  rw [hr] at Cr CO
  clear f1 f2 fq fr e1 e2 htq htr hq hr o1 o2 h0 b1 b2 sx sy
  go_enter Tryz.func28, Tryz.ntmps28
  go_wp2_with (first
      | (go_at_call 13; (with_reducible refine (Cx.out _).mono ?_); rintro e wa ⟨rfl, hw⟩; subst wa)
      | (go_at_call 13; (with_reducible refine (Cy.out _).mono ?_); rintro e wb ⟨rfl, hw⟩; subst wb)
      | (go_at_call 65; (with_reducible refine (CW.out _).mono ?_); rintro e wb ⟨rfl, hw⟩; subst wb)
      | (go_at_call 79; (with_reducible refine (refFirst_any _ 3 3 [(0 : Int), 0, 0] rfl (by omega) _ (three_cells _ 0 0 0 3)).mono ?_); rintro e wc ⟨rfl, hw⟩; subst wc; rw [hf3])
      | (go_at_call 70; (with_reducible refine (Rx.out _).mono ?_); rintro e w1 ⟨v1, rfl, hg1, hb1⟩; obtain ⟨b3, p3, k3, c3, rfl⟩ := hg1.shape; have hl1 := Below.trans (a := w) (B := w.heap.size) (by repeat' first | exact Below.refl _ _ | assumption | refine Below.setCell ?_ ?_ _ | refine Below.alloc ?_ ?_ _ | refine below_drewN ?_ | refine Below.drew ?_ | (simp; done) | (simp; omega)) (Below.mono hb1 (Below.size (B := w.heap.size) (w := w) (by repeat' first | exact Below.refl _ _ | assumption | refine Below.setCell ?_ ?_ _ | refine Below.alloc ?_ ?_ _ | refine below_drewN ?_ | refine Below.drew ?_ | (simp; done) | (simp; omega)))); clear hb1)
      | (go_at_call 70; (with_reducible refine (Ry.out _).mono ?_); rintro e w2 ⟨v2, rfl, hg2, hb2⟩; obtain ⟨b4, p4, k4, c4, rfl⟩ := hg2.shape; have hl2 := Below.trans hl1 (Below.mono hb2 (Below.size hl1)); have hg1' := hg1.keep hb2; clear hb2)
      | (go_at_call 91; (with_reducible refine (CO.out _ _ _ hg1' hg2).mono ?_); rintro e w3 ⟨vq, vr, rfl, hgq, hgr, hb3⟩; obtain ⟨b5, p5, k5, c5, rfl⟩ := hgq.shape; obtain ⟨b6, p6, k6, c6, rfl⟩ := hgr.shape; have hl3 := Below.trans hl2 (Below.mono hb3 (Below.size hl2)); clear hb3; have hb4 : Below w3.heap.size w3 ((w3.alloc (.cells #[.bool b5, .slice p5 k5 c5] 74)).alloc (.cells #[.bool b6, .slice p6 k6 c6] 74)) := (by repeat' first | exact Below.refl _ _ | assumption | refine Below.setCell ?_ ?_ _ | refine Below.alloc ?_ ?_ _ | refine below_drewN ?_ | refine Below.drew ?_ | (simp; done) | (simp; omega)); have hgq4 := hgq.keep hb4; have hgr4 := hgr.keep hb4; have hl4 := Below.trans hl3 (Below.mono hb4 (Below.size hl3)); obtain ⟨_, ⟨t90, t91⟩, _, _⟩ := cells2 w3 (.bool b5) (.slice p5 k5 c5) (.bool b6) (.slice p6 k6 c6) 74 74)
      | (go_at_call 75; (with_reducible refine (Cq.out _ _ hgq4).mono ?_); rintro e w5 ⟨rfl, hb5⟩; have s90 := cell_kept t90 hb5; have s91 := cell_kept t91 hb5; have hgr5 := hgr4.keep hb5; have hl5 := Below.trans hl4 (Below.mono hb5 (Below.size hl4)))
      | (go_at_call 75; (with_reducible refine (Cr.out _ _ hgr5).mono ?_); rintro e w6 ⟨rfl, hb6⟩; have hl6 := Below.trans hl5 (Below.mono hb6 (Below.size hl5)); have hs6 := hl6.size)
      | (go_at_call 79; (with_reducible refine (refFirst_any _ 2 2 [(0 : Int), 0] rfl (by omega) _ (pair_cells _ 0 0 3)).mono ?_); rintro e wc ⟨rfl, hw⟩; subst wc; rw [hf2]))
  go_ret3
  exact ⟨rfl, (by repeat' first | exact Below.refl _ _ | assumption | refine Below.setCell ?_ ?_ _ | refine Below.alloc ?_ ?_ _ | refine below_drewN ?_ | refine Below.drew ?_ | (simp; done) | (simp; omega))⟩
theorem refDivMod_any (x y : ByteArray) (sx : x.size <= 300) (sy : y.size <= 300) (w : World) : Calls Tryz.prog 28 #[.string x, .string y] w fun e w' => e = .returned (resD x y (vz x / vz y) (vz x % vz y)) /\ Below w.heap.size w w' := by
  unfold resD
  by_cases h : ckL2 x y = 0
  · obtain ⟨o1, o2⟩ := ckL2_zero h
    rw [if_neg (by simpa using h)]
    by_cases h0 : vz y = 0
    · rw [if_pos h0]
      have hc : ckD2 x y = 30 := by
        unfold ckD2
        rw [show ckL x.data.toList = 0 from o1, show ckL y.data.toList = 0 from o2, zero_text o2, decide_eq_true h0]
        rfl
      have := refDivMod_err x y sx sy (by rw [hc]; decide) w
      rw [hc] at this
      exact this
    · rw [if_neg h0]
      exact refDivMod_ok x y sx sy o1 o2 h0 w
  · rw [if_pos h]
    have hc : ckD2 x y = ckL2 x y := by
      unfold ckL2 at h ⊢
      unfold ckD2
      unfold firstE at h ⊢
      split
      · rename_i h1
        rw [if_pos h1] at h
        unfold firstE at h ⊢
        split
        · rename_i h2
          rw [if_pos h2] at h
          exact absurd rfl h
        · rfl
      · rfl
    have := refDivMod_err x y sx sy (by rw [hc]; exact h) w
    rw [hc] at this
    exact this
end
section
open Go.RowKit
open Qd (lims)
structure Pws (w : World) (H : Nat) (P X : Int) (b7 : Bool) (s7 : Value) (b8 : Bool) (s8 : Value) (W : World) : Prop where
  c0 : W.cell? ⟨H, 0, none⟩ = some (.bool b7)
  c1 : W.cell? ⟨H, 1, none⟩ = some s7
  d0 : W.cell? ⟨H + 1, 0, none⟩ = some (.bool b8)
  d1 : W.cell? ⟨H + 1, 1, none⟩ = some s8
  f0 : W.frozen? ⟨H, 0, none⟩ = false
  f1 : W.frozen? ⟨H, 1, none⟩ = false
  g7 : BigAt W (.agg #[.bool b7, s7]) P
  g8 : BigAt W (.agg #[.bool b8, s8]) X
  low : Below w.heap.size w W
  above : w.heap.size <= H
  size : H + 1 < W.heap.size
theorem Pws.keep {w W W' : World} {H : Nat} {P X : Int} {b7 b8 : Bool} {s7 s8 : Value} (h : Pws w H P X b7 s7 b8 s8 W) (hb : Below W.heap.size W W') : Pws w H P X b7 s7 b8 s8 W' := by
  obtain ⟨c0, c1, d0, d1, f0, f1, g7, g8, low, above, size⟩ := h
  exact { c0 := cell_kept c0 hb, c1 := cell_kept c1 hb, d0 := cell_kept d0 hb, d1 := cell_kept d1 hb, f0 := frozen_kept f0 hb (by simp; omega), f1 := frozen_kept f1 hb (by simp; omega), g7 := g7.keep hb, g8 := g8.keep hb, low := low.trans (hb.mono low.size), above := above, size := by have := hb.size; omega }
theorem Pws.next {w W : World} {H : Nat} {P Q X : Int} {b7 b8 b9 : Bool} {s7 s8 s9 : Value} (h : Pws w H P X b7 s7 b8 s8 W) (hq : BigAt W (.agg #[.bool b9, s9]) Q) : Pws w H Q X b9 s9 b8 s8 ((W.setCell ⟨H, 0, none⟩ (.bool b9)).setCell ⟨H, 1, none⟩ s9) := by
  obtain ⟨c0, c1, d0, d1, f0, f1, g7, g8, low, above, size⟩ := h
  have n1 : H + 1 ≠ H := by omega
  exact {
    c0 := set_cell (World.cell?_setCell_same _ _ _ c0) (by omega)
    c1 := World.cell?_setCell_same _ _ _ (set_cell c1 (by omega))
    d0 := cell_set (cell_set d0 n1) n1
    d1 := cell_set (cell_set d1 n1) n1
    f0 := set_frozen (set_frozen f0)
    f1 := set_frozen (set_frozen f1)
    g7 := hq.set2 c0 _ _
    g8 := g8.set2 c0 _ _
    low := (low.setCell (p := ⟨H, 0, none⟩) above _).setCell (p := ⟨H, 1, none⟩) above _
    above := above
    size := by simpa using size }
theorem pow_fit {X : Int} {i n : Nat} (hi : i <= n) (h : (X ^ n).natAbs < 10 ^ 120) (hX : X ≠ 0) : (X ^ i).natAbs < 10 ^ 120 := by
  obtain ⟨k, rfl⟩ : ∃ k, n = i + k := ⟨n - i, by omega⟩
  rw [Int.pow_add, Int.natAbs_mul] at h
  have h1 : 0 < (X ^ k).natAbs := by
    have : X ^ k ≠ 0 := Int.pow_ne_zero hX
    omega
  exact Nat.lt_of_le_of_lt (Nat.le_mul_of_pos_right _ h1) h
theorem pow_big {X : Int} {i n : Nat} (hi : i <= n) (h : ¬ (X ^ i).natAbs < 10 ^ 120) : ¬ (X ^ n).natAbs < 10 ^ 120 := by
  intro hn
  by_cases hX : X = 0
  · subst hX
    apply h
    cases i with
    | zero => simp
    | succ i => rw [Int.zero_pow (by omega)]; simp
  · exact h (pow_fit hi hn hX)
end
end Go.Proofs.YtpbegoflpfdajaaGreatDoor
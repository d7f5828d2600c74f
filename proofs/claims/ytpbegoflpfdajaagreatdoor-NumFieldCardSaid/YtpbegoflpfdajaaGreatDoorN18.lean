/- WHAT IS PROVED: contracts of functions of the numbers package and laws for them, used by the last text of this claim. CONDITIONS: stated at each theorem. -/
import Derived.Test.YtpbegoflpfdajaaGreatDoorN01
import Derived.Test.YtpbegoflpfdajaaGreatDoorN02
/- Plain arithmetic: one digit of a long division. -/
namespace Go.Proofs.YtpbegoflpfdajaaGreatDoor

/-- two limbs at the top -/
theorem two_top (n s : Nat) (hs : 2 ≤ s) (h : n < bb ^ s) : n / bb ^ (s - 2) = lim n (s - 1) * bb + lim n (s - 2) := by
  obtain ⟨k, rfl⟩ : ∃ k, s = k + 2 := ⟨s - 2, by omega⟩
  have e1 : k + 2 - 1 = k + 1 := by omega
  have e2 : k + 2 - 2 = k := by omega
  rw [e1, e2]
  have h1 : n / bb ^ k / bb = n / bb ^ (k + 1) := by rw [Nat.div_div_eq_div_mul, ← Nat.pow_succ]
  have h2 : n / bb ^ (k + 1) < bb := (Nat.div_lt_iff_lt_mul (bb_pow_pos _)).2 (by rw [show bb * bb ^ (k + 1) = bb ^ (k + 2) by rw [Nat.mul_comm, ← Nat.pow_succ]]; exact h)
  have h3 : lim n (k + 1) = n / bb ^ (k + 1) := by unfold lim; exact Nat.mod_eq_of_lt h2
  have h4 := Nat.div_add_mod (n / bb ^ k) bb
  rw [h1] at h4
  rw [h3]
  unfold lim
  rw [Nat.mul_comm] at h4
  omega
/-- the top limb of the rest -/
theorem top_le {R v s : Nat} (hs : 2 ≤ s) (hv : v < bb ^ s) (hR : R < v * bb) : R / bb ^ s ≤ lim v (s - 1) := by
  obtain ⟨k, rfl⟩ : ∃ k, s = k + 2 := ⟨s - 2, by omega⟩
  have e1 : k + 2 - 1 = k + 1 := by omega
  rw [e1]
  have h2 : v / bb ^ (k + 1) < bb := (Nat.div_lt_iff_lt_mul (bb_pow_pos _)).2 (by rw [show bb * bb ^ (k + 1) = bb ^ (k + 2) by rw [Nat.mul_comm, ← Nat.pow_succ]]; exact hv)
  have h3 : lim v (k + 1) = v / bb ^ (k + 1) := by unfold lim; exact Nat.mod_eq_of_lt h2
  rw [h3]
  apply Nat.le_of_lt_succ
  rw [Nat.div_lt_iff_lt_mul (bb_pow_pos _)]
  have h5 : v < (v / bb ^ (k + 1) + 1) * bb ^ (k + 1) := by
    have := Nat.div_add_mod v (bb ^ (k + 1))
    have := Nat.mod_lt v (bb_pow_pos (k + 1))
    rw [Nat.add_mul, Nat.one_mul, Nat.mul_comm (v / bb ^ (k + 1))]
    omega
  have h6 : v * bb < (v / bb ^ (k + 1) + 1) * bb ^ (k + 1) * bb := Nat.mul_lt_mul_of_pos_right h5 bb_pos
  rw [Nat.mul_assoc, ← Nat.pow_succ] at h6
  exact Nat.lt_trans hR h6

/-- what a guess of a digit knows: D the digit, over what is left of the two first limbs, H those two limbs -/
structure Guess (R v s H D over : Nat) : Prop where
  sum : D * lim v (s - 1) + over = H
  up : R < (D + 1) * v

section
variable {R v s H D over : Nat}
theorem top_pos (hs : 2 ≤ s) (hv1 : bb ^ (s - 1) ≤ v) (hv : v < bb ^ s) : 0 < lim v (s - 1) := by
  have := two_top v s hs hv
  apply Nat.pos_of_ne_zero
  intro h0
  obtain ⟨k, rfl⟩ : ∃ k, s = k + 2 := ⟨s - 2, by omega⟩
  have e1 : k + 2 - 1 = k + 1 := by omega
  have e2 : k + 2 - 2 = k := by omega
  rw [h0, e2] at this
  have h2 : bb ≤ v / bb ^ k := by
    rw [Nat.le_div_iff_mul_le (bb_pow_pos k), Nat.mul_comm, ← Nat.pow_succ]; rw [e1] at hv1; exact hv1
  have := lim_lt v k
  omega
/-- the rest, from its first three limbs -/
theorem rest_top (hs : 2 ≤ s) (hv : v < bb ^ s) (hR : R < v * bb) : R / bb ^ (s - 2) = (lim R s * bb + lim R (s - 1)) * bb + lim R (s - 2) := by
  have h1 : R < bb ^ (s + 1) := by
    rw [Nat.pow_succ]; exact Nat.lt_trans hR (Nat.mul_lt_mul_of_pos_right hv bb_pos)
  obtain ⟨k, rfl⟩ : ∃ k, s = k + 2 := ⟨s - 2, by omega⟩
  have e1 : k + 2 - 1 = k + 1 := by omega
  have e2 : k + 2 - 2 = k := by omega
  have t := two_top R (k + 2 + 1) (by omega) h1
  have e3 : k + 2 + 1 - 2 = k + 1 := by omega
  have e4 : k + 2 + 1 - 1 = k + 2 := by omega
  rw [e3, e4] at t
  rw [e1, e2]
  rw [← t]
  have h4 := Nat.div_add_mod (R / bb ^ k) bb
  rw [Nat.div_div_eq_div_mul, ← Nat.pow_succ, Nat.mul_comm] at h4
  show R / bb ^ k = R / bb ^ (k + 1) * bb + R / bb ^ k % bb
  exact h4.symm
theorem lt_up {a b c : Nat} (h : R / bb ^ c < a) (hv : a * bb ^ c ≤ b) : R < b :=
  Nat.lt_of_lt_of_le ((Nat.div_lt_iff_lt_mul (bb_pow_pos c)).1 h) hv
theorem two_le (hs : 2 ≤ s) (hv : v < bb ^ s) : (lim v (s - 1) * bb + lim v (s - 2)) * bb ^ (s - 2) ≤ v := by
  rw [← two_top v s hs hv]; exact Nat.div_mul_le_self v _
theorem one_le (hs : 2 ≤ s) (hv : v < bb ^ s) : lim v (s - 1) * bb ^ (s - 1) ≤ v := by
  refine Nat.le_trans ?_ (two_le hs hv)
  obtain ⟨k, rfl⟩ : ∃ k, s = k + 2 := ⟨s - 2, by omega⟩
  have e1 : k + 2 - 1 = k + 1 := by omega
  have e2 : k + 2 - 2 = k := by omega
  rw [e1, e2, Nat.pow_succ, Nat.add_mul, Nat.mul_assoc, Nat.mul_comm bb]
  omega
/-- the first guess -/
theorem Guess.first (hs : 2 ≤ s) (hv1 : bb ^ (s - 1) ≤ v) (hv : v < bb ^ s) (hR : R < v * bb) (hH : H = lim R s * bb + lim R (s - 1)) : Guess R v s H (H / lim v (s - 1)) (H % lim v (s - 1)) := by
  have tp := top_pos hs hv1 hv
  refine ⟨by rw [Nat.mul_comm]; exact Nat.div_add_mod _ _, ?_⟩
  have r := rest_top hs hv hR
  rw [← hH] at r
  have h1 : R / bb ^ (s - 1) < H + 1 := by
    obtain ⟨k, rfl⟩ : ∃ k, s = k + 2 := ⟨s - 2, by omega⟩
    have e1 : k + 2 - 1 = k + 1 := by omega
    have e2 : k + 2 - 2 = k := by omega
    rw [e2] at r
    rw [e1, Nat.pow_succ, ← Nat.div_div_eq_div_mul, r]
    rw [Nat.div_lt_iff_lt_mul bb_pos, Nat.add_mul]
    have := lim_lt R k
    omega
  refine lt_up h1 ?_
  have h2 : H + 1 ≤ (H / lim v (s - 1) + 1) * lim v (s - 1) := by
    have := Nat.div_add_mod H (lim v (s - 1))
    have := Nat.mod_lt H tp
    rw [Nat.add_mul, Nat.one_mul, Nat.mul_comm (H / _)]
    omega
  calc (H + 1) * bb ^ (s - 1) ≤ (H / lim v (s - 1) + 1) * lim v (s - 1) * bb ^ (s - 1) := Nat.mul_le_mul_right _ h2
    _ = (H / lim v (s - 1) + 1) * (lim v (s - 1) * bb ^ (s - 1)) := Nat.mul_assoc _ _ _
    _ ≤ (H / lim v (s - 1) + 1) * v := Nat.mul_le_mul_left _ (one_le hs hv)
theorem head_lt (hs : 2 ≤ s) (hv : v < bb ^ s) (hR : R < v * bb) (hH : H = lim R s * bb + lim R (s - 1)) : H < (lim v (s - 1) + 1) * bb := by
  have h1 : R < bb ^ (s + 1) := by
    rw [Nat.pow_succ]; exact Nat.lt_trans hR (Nat.mul_lt_mul_of_pos_right hv bb_pos)
  have h2 : lim R s = R / bb ^ s := by
    unfold lim; rw [Nat.mod_eq_of_lt]; rw [Nat.div_lt_iff_lt_mul (bb_pow_pos _), Nat.mul_comm, ← Nat.pow_succ]; exact h1
  have h3 := top_le hs hv hR
  rw [← h2] at h3
  have := lim_lt R (s - 1)
  have h4 : lim R s * bb ≤ lim v (s - 1) * bb := Nat.mul_le_mul_right _ h3
  rw [hH, Nat.add_mul]
  omega
/-- a guess that is at least the base is too large -/
theorem Guess.big (hs : 2 ≤ s) (hv1 : bb ^ (s - 1) ≤ v) (hv : v < bb ^ s) (hR : R < v * bb) (hH : H = lim R s * bb + lim R (s - 1)) (g : Guess R v s H D over) (hD : bb ≤ D) : R < D * v ∧ over < bb ∧ D ≤ 2 * bb := by
  have tp := top_pos hs hv1 hv
  have hl := head_lt hs hv hR hH
  have h1 : bb * v ≤ D * v := Nat.mul_le_mul_right _ hD
  have h2 : bb * lim v (s - 1) ≤ D * lim v (s - 1) := Nat.mul_le_mul_right _ hD
  have h3 := g.sum
  rw [Nat.add_mul, Nat.one_mul, Nat.mul_comm] at hl
  refine ⟨by rw [Nat.mul_comm] at hR; omega, by omega, ?_⟩
  apply Nat.le_of_not_lt; intro hlt
  have h4 : (2 * bb + 1) * lim v (s - 1) ≤ D * lim v (s - 1) := Nat.mul_le_mul_right _ hlt
  have h5 : bb ≤ bb * lim v (s - 1) := Nat.le_mul_of_pos_right _ tp
  have h6 : (2 * bb + 1) * lim v (s - 1) = bb * lim v (s - 1) + bb * lim v (s - 1) + lim v (s - 1) := by rw [Nat.add_mul, Nat.mul_assoc, Nat.two_mul, Nat.one_mul]
  omega
/-- a guess that the second limb shows to be too large -/
theorem Guess.over' (hs : 2 ≤ s) (hv : v < bb ^ s) (hR : R < v * bb) (hH : H = lim R s * bb + lim R (s - 1)) (g : Guess R v s H D over) (h : over * bb + lim R (s - 2) < D * lim v (s - 2)) : R < D * v := by
  have r := rest_top hs hv hR
  rw [← hH] at r
  have e : D * (lim v (s - 1) * bb + lim v (s - 2)) = D * lim v (s - 1) * bb + D * lim v (s - 2) := by rw [Nat.mul_add, Nat.mul_assoc]
  have hs2 : H * bb = D * lim v (s - 1) * bb + over * bb := by rw [← g.sum, Nat.add_mul]
  refine lt_up (c := s - 2) (a := D * (lim v (s - 1) * bb + lim v (s - 2))) (by omega) ?_
  rw [Nat.mul_assoc]
  exact Nat.mul_le_mul_left _ (two_le hs hv)
theorem Guess.less (g : Guess R v s H D over) (hb : R < D * v) : 0 < D ∧ Guess R v s H (D - 1) (over + lim v (s - 1)) := by
  have h0 : 0 < D := by
    apply Nat.pos_of_ne_zero; intro h; rw [h, Nat.zero_mul] at hb; omega
  obtain ⟨d, rfl⟩ : ∃ d, D = d + 1 := ⟨D - 1, by omega⟩
  refine ⟨h0, ?_, hb⟩
  have := g.sum
  rw [Nat.add_mul, Nat.one_mul] at this
  rw [Nat.add_sub_cancel]
  omega
/-- at the end the guess is right, or one too large -/
theorem Guess.done (hs : 2 ≤ s) (hv1 : bb ^ (s - 1) ≤ v) (hv : v < bb ^ s) (hR : R < v * bb) (hH : H = lim R s * bb + lim R (s - 1)) (g : Guess R v s H D over) (hD : D < bb) (h : D * lim v (s - 2) ≤ over * bb + lim R (s - 2)) : D * v ≤ R + v := by
  have r := rest_top hs hv hR
  rw [← hH] at r
  have e : D * (lim v (s - 1) * bb + lim v (s - 2)) = D * lim v (s - 1) * bb + D * lim v (s - 2) := by rw [Nat.mul_add, Nat.mul_assoc]
  have hs2 : H * bb = D * lim v (s - 1) * bb + over * bb := by rw [← g.sum, Nat.add_mul]
  have h1 : D * (v / bb ^ (s - 2)) ≤ R / bb ^ (s - 2) := by rw [two_top v s hs hv]; omega
  have h2 : D * (v / bb ^ (s - 2)) * bb ^ (s - 2) ≤ R := Nat.le_trans (Nat.mul_le_mul_right _ h1) (Nat.div_mul_le_self _ _)
  have h3 : D * v = D * (v / bb ^ (s - 2)) * bb ^ (s - 2) + D * (v % bb ^ (s - 2)) := by
    rw [Nat.mul_assoc, ← Nat.mul_add, Nat.mul_comm (v / _), Nat.div_add_mod]
  have h4 : D * (v % bb ^ (s - 2)) ≤ bb * bb ^ (s - 2) := Nat.mul_le_mul (by omega) (Nat.le_of_lt (Nat.mod_lt _ (bb_pow_pos _)))
  have h5 : bb * bb ^ (s - 2) ≤ v := by
    obtain ⟨k, rfl⟩ : ∃ k, s = k + 2 := ⟨s - 2, by omega⟩
    have e1 : k + 2 - 1 = k + 1 := by omega
    have e2 : k + 2 - 2 = k := by omega
    rw [e2, Nat.mul_comm, ← Nat.pow_succ]; rw [e1] at hv1; exact hv1
  omega
/-- a guess whose rest is at least the base -/
theorem Guess.stop (hs : 2 ≤ s) (hv1 : bb ^ (s - 1) ≤ v) (hv : v < bb ^ s) (hR : R < v * bb) (hH : H = lim R s * bb + lim R (s - 1)) (g : Guess R v s H D over) (ho : bb ≤ over) : D < bb ∧ D * v ≤ R + v := by
  have hD : D < bb := by
    apply Nat.lt_of_not_le; intro hle
    have := (g.big hs hv1 hv hR hH hle).2.1
    omega
  refine ⟨hD, g.done hs hv1 hv hR hH hD ?_⟩
  have h1 : D * lim v (s - 2) ≤ bb * bb := Nat.mul_le_mul (by omega) (Nat.le_of_lt (lim_lt _ _))
  have h2 : bb * bb ≤ over * bb := Nat.mul_le_mul_right _ ho
  omega
end
end Go.Proofs.YtpbegoflpfdajaaGreatDoor

/- Plain arithmetic: a product taken away from a rest, limb by limb. -/
namespace Go.Proofs.YtpbegoflpfdajaaGreatDoor

theorem lim_shift (n c i : Nat) : lim (n * bb ^ c) (c + i) = lim n i := by
  unfold lim
  rw [Nat.pow_add, ← Nat.div_div_eq_div_mul, Nat.mul_div_cancel _ (bb_pow_pos c)]
theorem lim_div (n c i : Nat) : lim (n / bb ^ c) i = lim n (c + i) := by
  unfold lim
  rw [Nat.div_div_eq_div_mul, ← Nat.pow_add]
theorem mod_shift (n c : Nat) : (n * bb ^ c) % bb ^ c = 0 := Nat.mul_mod_left _ _
theorem lim_top_add (n c t j : Nat) (h : j < t) : lim (n + bb ^ t * c) j = lim n j := by
  obtain ⟨k, rfl⟩ : ∃ k, t = j + (k + 1) := ⟨t - j - 1, by omega⟩
  unfold lim
  rw [Nat.pow_add, Nat.mul_assoc, Nat.add_mul_div_left _ _ (bb_pow_pos j), Nat.pow_succ, Nat.mul_comm (bb ^ k), Nat.mul_assoc, Nat.add_mul_mod_self_left]
theorem lim_lo (n c t : Nat) (h : n % bb ^ t = c % bb ^ t) (j : Nat) (hj : j < t) : lim n j = lim c j := by
  have e1 := Nat.div_add_mod n (bb ^ t)
  have e2 := Nat.div_add_mod c (bb ^ t)
  rw [← e1, ← e2, Nat.add_comm, Nat.add_comm (bb ^ t * (c / bb ^ t)), lim_top_add _ _ _ _ hj, lim_top_add _ _ _ _ hj, h]
theorem bor_of {a b k : Nat} (h : b % bb ^ k = 0) : bor a b k = 0 := by unfold bor; rw [h]; simp
theorem car_of {a b k : Nat} (h : b % bb ^ k = 0) : car a b k = 0 := by
  unfold car; rw [h, Nat.add_zero]; exact Nat.div_eq_of_lt (Nat.mod_lt _ (bb_pow_pos k))

/-- the carry of a digit times a number -/
def cy (D v i : Nat) : Nat := D * (v % bb ^ i) / bb ^ i
theorem cy_zero (D v : Nat) : cy D v 0 = 0 := by unfold cy; simp [Nat.mod_one]
theorem cy_lim (D v i : Nat) : (D * lim v i + cy D v i) % bb = lim (D * v) i := by
  unfold cy
  have e : D * v = D * (v % bb ^ i) + bb ^ i * (D * (v / bb ^ i)) := by
    have := Nat.div_add_mod v (bb ^ i)
    rw [Nat.mul_left_comm, ← Nat.mul_add]
    rw [Nat.add_comm, this]
  conv => rhs; unfold lim; rw [e, Nat.add_mul_div_left _ _ (bb_pow_pos i)]
  unfold lim
  rw [Nat.add_comm, Nat.add_mod, Nat.mul_mod_mod, ← Nat.add_mod]
theorem cy_succ (D v i : Nat) : (D * lim v i + cy D v i) / bb = cy D v (i + 1) := by
  unfold cy
  rw [mod_pow_succ, Nat.mul_add, Nat.mul_left_comm D (bb ^ i), Nat.pow_succ, ← Nat.div_div_eq_div_mul, Nat.add_mul_div_left _ _ (bb_pow_pos i), Nat.add_comm]
theorem cy_lt (D v i : Nat) (hD : 0 < D) : cy D v i < D := by
  unfold cy
  rw [Nat.div_lt_iff_lt_mul (bb_pow_pos i)]
  exact Nat.mul_lt_mul_of_pos_left (Nat.mod_lt _ (bb_pow_pos i)) hD
theorem cy_le (D v i : Nat) : cy D v i ≤ D := by
  by_cases h : 0 < D
  · exact Nat.le_of_lt (cy_lt D v i h)
  · have : D = 0 := by omega
    subst this; unfold cy; simp
theorem cy_top {D v s : Nat} (hv : v < bb ^ s) (hD : D < bb) : cy D v s = lim (D * v) s := by
  have h : D * v < bb ^ (s + 1) := by
    rw [Nat.pow_succ, Nat.mul_comm]
    rcases Nat.eq_zero_or_pos v with rfl | hp
    · rw [Nat.zero_mul]; exact Nat.mul_pos (bb_pow_pos _) bb_pos
    · exact Nat.lt_of_le_of_lt (Nat.mul_le_mul_left _ (Nat.le_of_lt hD)) (Nat.mul_lt_mul_of_pos_right hv bb_pos)
  unfold cy lim
  rw [Nat.mod_eq_of_lt hv, Nat.mod_eq_of_lt]
  rw [Nat.div_lt_iff_lt_mul (bb_pow_pos _), Nat.mul_comm bb, ← Nat.pow_succ]; exact h

/-- a number as it stands while D * v is taken away from its limbs from c on: s + 1 limbs are touched -/
def tk (X D v c s : Nat) : Nat := X + bb ^ (c + s + 1) - D * v * bb ^ c
section
variable {X D v c s : Nat}
theorem dv_lt (hv : v < bb ^ s) (hD : D < bb) : D * v * bb ^ c < bb ^ (c + s + 1) := by
  rw [show c + s + 1 = (s + 1) + c by omega, Nat.pow_add]
  refine Nat.mul_lt_mul_of_pos_right ?_ (bb_pow_pos c)
  rw [Nat.pow_succ, Nat.mul_comm]
  rcases Nat.eq_zero_or_pos v with rfl | hp
  · rw [Nat.zero_mul]; exact Nat.mul_pos (bb_pow_pos _) bb_pos
  · exact Nat.lt_of_le_of_lt (Nat.mul_le_mul_left _ (Nat.le_of_lt hD)) (Nat.mul_lt_mul_of_pos_right hv bb_pos)
theorem tk_lim (hv : v < bb ^ s) (hD : D < bb) (i : Nat) (hi : i ≤ s) : lim (tk X D v c s) (c + i) = (lim X (c + i) + bb - lim (D * v) i - bor (X + bb ^ (c + s + 1)) (D * v * bb ^ c) (c + i)) % bb := by
  have h := dv_lt (c := c) hv hD
  unfold tk
  rw [lim_sub _ _ _ (by omega), lim_shift]
  have := lim_top_add X 1 (c + s + 1) (c + i) (by omega)
  rw [Nat.mul_one] at this
  rw [this]
theorem tk_bor (i : Nat) (hi : i ≤ s) : bor (X + bb ^ (c + s + 1)) (D * v * bb ^ c) (c + (i + 1)) = 1 - (lim X (c + i) + bb - lim (D * v) i - bor (X + bb ^ (c + s + 1)) (D * v * bb ^ c) (c + i)) / bb := by
  rw [← Nat.add_assoc, bor_succ, lim_shift]
  have := lim_top_add X 1 (c + s + 1) (c + i) (by omega)
  rw [Nat.mul_one] at this
  rw [this]
theorem tk_bor0 : bor (X + bb ^ (c + s + 1)) (D * v * bb ^ c) (c + 0) = 0 := bor_of (mod_shift _ _)
theorem tk_low (hv : v < bb ^ s) (hD : D < bb) (j : Nat) (hj : j < c) : lim (tk X D v c s) j = lim X j := by
  have h := dv_lt (c := c) hv hD
  refine lim_lo _ _ c ?_ j hj
  unfold tk
  have e : X + bb ^ (c + s + 1) = (X + bb ^ (c + s + 1) - D * v * bb ^ c) + bb ^ c * (D * v) := by rw [Nat.mul_comm (bb ^ c)]; omega
  have e2 : (X + bb ^ (c + s + 1)) % bb ^ c = X % bb ^ c := by rw [show c + s + 1 = c + (s + 1) by omega, Nat.pow_add, Nat.add_mul_mod_self_left]
  rw [← e2]
  conv => rhs; rw [e, Nat.add_mul_mod_self_left]
/-- the last borrow tells whether it was too much -/
theorem tk_over (hv : v < bb ^ s) (hD : D < bb) (hX : X < bb ^ (c + s + 1)) : bor (X + bb ^ (c + s + 1)) (D * v * bb ^ c) (c + s + 1) = if X / bb ^ c < D * v then 1 else 0 := by
  unfold bor
  rw [Nat.add_mod_right, Nat.mod_eq_of_lt hX, Nat.mod_eq_of_lt (dv_lt hv hD)]
  have : X < D * v * bb ^ c ↔ X / bb ^ c < D * v := (Nat.div_lt_iff_lt_mul (bb_pow_pos c)).symm
  simp only [this]
/-- not too much: the limbs are those of the difference -/
theorem tk_ok (h : D * v * bb ^ c ≤ X) (j : Nat) (hj : j < c + s + 1) : lim (tk X D v c s) j = lim (X - D * v * bb ^ c) j := by
  unfold tk
  rw [show X + bb ^ (c + s + 1) - D * v * bb ^ c = (X - D * v * bb ^ c) + bb ^ (c + s + 1) * 1 by omega]
  exact lim_top_add _ _ _ _ hj
/-- too much: the divisor is added again -/
theorem tk_back (hD0 : 0 < D) (hv : v < bb ^ s) (hD : D < bb) (h : (D - 1) * v * bb ^ c ≤ X) : tk X D v c s + v * bb ^ c = X - (D - 1) * v * bb ^ c + bb ^ (c + s + 1) * 1 := by
  have h1 := dv_lt (c := c) hv hD
  unfold tk
  obtain ⟨d, rfl⟩ : ∃ d, D = d + 1 := ⟨D - 1, by omega⟩
  rw [Nat.add_sub_cancel] at h ⊢
  rw [Nat.add_mul, Nat.one_mul, Nat.add_mul] at h1 ⊢
  omega
theorem bk_lim (_hv : v < bb ^ s) (i : Nat) (_hi : i ≤ s) (Y : Nat) : lim (Y + v * bb ^ c) (c + i) = (lim Y (c + i) + lim v i + car Y (v * bb ^ c) (c + i)) % bb := by
  rw [lim_add, lim_shift]
theorem bk_car (i : Nat) (Y : Nat) : car Y (v * bb ^ c) (c + (i + 1)) = (lim Y (c + i) + lim v i + car Y (v * bb ^ c) (c + i)) / bb := by
  rw [← Nat.add_assoc, car_succ, lim_shift]
theorem bk_car0 (Y : Nat) : car Y (v * bb ^ c) (c + 0) = 0 := car_of (mod_shift _ _)
theorem bk_low (Y : Nat) (j : Nat) (hj : j < c) : lim (Y + v * bb ^ c) j = lim Y j := by
  refine lim_lo _ _ c ?_ j hj
  rw [Nat.mul_comm, Nat.add_mul_mod_self_left]
end
end Go.Proofs.YtpbegoflpfdajaaGreatDoor

/- Plain arithmetic: a long division, digit by digit. -/
namespace Go.Proofs.YtpbegoflpfdajaaGreatDoor

/-- what is left of M above the place k -/
def rem (M v k : Nat) : Nat := M % (v * bb ^ k)
theorem rem_zero (M v : Nat) : rem M v 0 = M % v := by unfold rem; simp
theorem rem_succ (M v c : Nat) : rem M v (c + 1) = rem M v c + lim (M / v) c * v * bb ^ c := by
  unfold rem lim
  rw [Nat.pow_succ, ← Nat.mul_assoc, Nat.mod_mul, Nat.div_div_eq_div_mul, Nat.mul_comm (v * bb ^ c), Nat.mul_assoc _ v]
theorem rem_lt {v : Nat} (hv : 0 < v) (M c : Nat) : rem M v c < v * bb ^ c := Nat.mod_lt _ (Nat.mul_pos hv (bb_pow_pos c))
theorem rem_all {M v k : Nat} (h : M < v * bb ^ k) : rem M v k = M := Nat.mod_eq_of_lt h
section
variable {M v c s D : Nat}
/-- the digit at the place c -/
theorem rem_digit (hv : 0 < v) : rem M v (c + 1) / bb ^ c / v = lim (M / v) c := by
  have h := rem_lt hv M c
  rw [rem_succ, Nat.mul_assoc, Nat.div_div_eq_div_mul, Nat.mul_comm (bb ^ c) v, Nat.add_mul_div_right _ _ (Nat.mul_pos hv (bb_pow_pos c)), Nat.div_eq_of_lt h, Nat.zero_add]
theorem rem_rest (hv : 0 < v) : rem M v (c + 1) / bb ^ c < v * bb := by
  have h := rem_lt hv M (c + 1)
  rw [Nat.div_lt_iff_lt_mul (bb_pow_pos c), Nat.mul_assoc, Nat.mul_comm bb, ← Nat.pow_succ]; exact h
theorem rem_small (hv0 : 0 < v) (hv : v < bb ^ s) : rem M v (c + 1) < bb ^ (c + s + 1) := by
  have h := rem_lt hv0 M (c + 1)
  refine Nat.lt_trans h ?_
  rw [show c + s + 1 = s + (c + 1) by omega, Nat.pow_add bb s]
  exact Nat.mul_lt_mul_of_pos_right hv (bb_pow_pos _)
/-- a guess is the digit, or one too large -/
theorem guess_q {R : Nat} (hv : 0 < v) (h1 : D * v ≤ R + v) (h2 : R < (D + 1) * v) : D = R / v ∨ D = R / v + 1 := by
  have e := Nat.div_add_mod R v
  have l := Nat.mod_lt R hv
  have h3 : R / v < D + 1 := (Nat.div_lt_iff_lt_mul hv).2 h2
  have h4 : D ≤ R / v + 1 := by
    apply Nat.le_of_not_lt; intro hlt
    have : (R / v + 2) * v ≤ D * v := Nat.mul_le_mul_right _ hlt
    rw [Nat.add_mul, Nat.mul_comm (R / v)] at this
    omega
  omega
theorem digit_ok (hv : 0 < v) (h : D = lim (M / v) c) : ¬ rem M v (c + 1) / bb ^ c < D * v ∧ D * v * bb ^ c ≤ rem M v (c + 1) ∧ rem M v (c + 1) - D * v * bb ^ c = rem M v c := by
  subst h
  have e := rem_succ M v c
  refine ⟨?_, by omega, by omega⟩
  rw [← rem_digit hv, Nat.not_lt]
  exact Nat.div_mul_le_self _ _
theorem digit_over (hv : 0 < v) (h : D = lim (M / v) c + 1) : rem M v (c + 1) / bb ^ c < D * v ∧ (D - 1) * v * bb ^ c ≤ rem M v (c + 1) ∧ rem M v (c + 1) - (D - 1) * v * bb ^ c = rem M v c ∧ 0 < D := by
  subst h
  have e := rem_succ M v c
  refine ⟨?_, by rw [Nat.add_sub_cancel]; omega, by rw [Nat.add_sub_cancel]; omega, by omega⟩
  rw [← rem_digit hv]
  exact Nat.lt_mul_of_div_lt (Nat.lt_succ_self _) hv
end
/-- dividing by a multiple -/
theorem div_scale (m o d : Nat) (hd : 0 < d) : m * d / (o * d) = m / o := Nat.mul_div_mul_right _ _ hd
theorem mod_scale (m o d : Nat) (hd : 0 < d) : m * d % (o * d) / d = m % o := by
  rw [Nat.mul_mod_mul_right, Nat.mul_div_cancel _ hd]
/-- the scaled divisor has as many limbs -/
theorem scale_lt {o s : Nat} (hs : 1 ≤ s) (ho : o < bb ^ s) : o * (bb / (lim o (s - 1) + 1)) < bb ^ s := by
  obtain ⟨k, rfl⟩ : ∃ k, s = k + 1 := ⟨s - 1, by omega⟩
  rw [Nat.add_sub_cancel]
  have h2 : o / bb ^ k < bb := (Nat.div_lt_iff_lt_mul (bb_pow_pos _)).2 (by rw [Nat.mul_comm, ← Nat.pow_succ]; exact ho)
  have h3 : lim o k = o / bb ^ k := by unfold lim; exact Nat.mod_eq_of_lt h2
  rw [h3]
  have h4 : o < (o / bb ^ k + 1) * bb ^ k := Nat.lt_mul_of_div_lt (Nat.lt_succ_self _) (bb_pow_pos k)
  have h5 : (o / bb ^ k + 1) * (bb / (o / bb ^ k + 1)) ≤ bb := Nat.mul_div_le _ _
  have hp : 0 < bb / (o / bb ^ k + 1) := Nat.div_pos h2 (by omega)
  calc o * (bb / (o / bb ^ k + 1)) < (o / bb ^ k + 1) * bb ^ k * (bb / (o / bb ^ k + 1)) := Nat.mul_lt_mul_of_pos_right h4 hp
    _ = (o / bb ^ k + 1) * (bb / (o / bb ^ k + 1)) * bb ^ k := by rw [Nat.mul_right_comm]
    _ ≤ bb * bb ^ k := Nat.mul_le_mul_right _ h5
    _ = bb ^ (k + 1) := by rw [Nat.mul_comm, ← Nat.pow_succ]
theorem scale_pos {o k : Nat} : 0 < bb / (lim o k + 1) := Nat.div_pos (by have := lim_lt o k; omega) (by omega)
theorem scale_le {o k : Nat} : bb / (lim o k + 1) ≤ bb := Nat.div_le_self _ _
end Go.Proofs.YtpbegoflpfdajaaGreatDoor

namespace Go.Proofs.YtpbegoflpfdajaaGreatDoor
open Go.RowKit

/-- only the block g changes -/
structure Oth (g : Nat) (w w' : World) : Prop where
  os : w'.os = w.os
  tape : w'.tape = w.tape
  output : w'.output = w.output
  size : w'.heap.size = w.heap.size
  block : ∀ k, k ≠ g → w'.heap[k]? = w.heap[k]?
theorem Oth.refl (g : Nat) (w : World) : Oth g w w := ⟨rfl, rfl, rfl, rfl, fun _ _ => rfl⟩
theorem Oth.drewN {g n : Nat} {w w' : World} (h : Oth g w w') : Oth g w (w'.drewN n) := ⟨h.os, h.tape, h.output, h.size, h.block⟩
theorem Oth.trans {g : Nat} {a b c : World} (h : Oth g a b) (k : Oth g b c) : Oth g a c := ⟨k.os.trans h.os, k.tape.trans h.tape, k.output.trans h.output, k.size.trans h.size, fun i hi => (k.block i hi).trans (h.block i hi)⟩
theorem Oth.set {g : Nat} {w w' : World} (h : Oth g w w') (o : Nat) (v : Value) : Oth g w (w'.setCell ⟨g, o, none⟩ v) := ⟨h.os, h.tape, h.output, by simp [h.size], fun k hk => (Below.heap_setCell _ _ _ k hk).trans (h.block k hk)⟩
theorem Oth.cell {g : Nat} {w w' : World} (h : Oth g w w') {p : Addr} (hp : p.block ≠ g) : w'.cell? p = w.cell? p := World.cell?_of_block (w := w) (h.block p.block hp)
theorem Oth.frozen {g : Nat} {w w' : World} (h : Oth g w w') {p : Addr} (hp : p.block ≠ g) : w'.frozen? p = w.frozen? p := World.frozen?_of_block (w := w) (h.block p.block hp)
theorem Oth.below {B g : Nat} {w w' : World} (h : Oth g w w') (hg : B ≤ g) : Below B w w' := ⟨h.os, h.tape, h.output, Nat.le_of_eq h.size.symm, fun k hk => h.block k (by omega)⟩
theorem Oth.range {g b o : Nat} {cs : List Value} {w w' : World} (h : Oth g w w') (hb : b ≠ g) (hr : w.rangeAt b o cs) : w'.rangeAt b o cs := fun j v hv => by
  rw [h.cell (p := ⟨b, o + j, none⟩) hb]; exact hr j v hv
theorem Oth.there {g b o n : Nat} {w w' : World} (h : Oth g w w') (hb : b ≠ g) (ht : w.there b o n) : w'.there b o n := fun j hj => by
  rw [h.cell (p := ⟨b, o + j, none⟩) hb, h.frozen (p := ⟨b, o + j, none⟩) hb]; exact ht j hj

/-- 31 limbs in a block: those of Y below k, those of X from k on -/
def Xs (X Y k g : Nat) (w : World) : Prop := ∀ j, j < 31 → w.cell? ⟨g, j, none⟩ = some (.int .u32 (if j < k then lim Y j else lim X j)) ∧ w.frozen? ⟨g, j, none⟩ = false
theorem Xs.at {X Y k g : Nat} {w : World} (h : Xs X Y k g w) {j : Nat} (hj : j < 31) (hk : k ≤ j) : w.cell? ⟨g, j, none⟩ = some (.int .u32 (lim X j)) := by
  have := (h j hj).1
  rwa [if_neg (by omega)] at this
theorem Xs.fr {X Y k g : Nat} {w : World} (h : Xs X Y k g w) {j : Nat} (hj : j < 31) : w.frozen? ⟨g, j, none⟩ = false := (h j hj).2
theorem Xs.drewN {X Y k g n : Nat} {w : World} (h : Xs X Y k g w) : Xs X Y k g (w.drewN n) := h
theorem Xs.oth {X Y k g b : Nat} {w w' : World} (h : Xs X Y k g w) (ho : Oth b w w') (hb : g ≠ b) : Xs X Y k g w' := fun j hj => by
  rw [ho.cell (p := ⟨g, j, none⟩) hb, ho.frozen (p := ⟨g, j, none⟩) hb]; exact h j hj
theorem Xs.set {X Y k g : Nat} {w : World} (h : Xs X Y k g w) (hk : k < 31) : Xs X Y (k + 1) g (w.setCell ⟨g, k, none⟩ (.int .u32 (lim Y k))) := fun j hj => by
  obtain ⟨h1, h2⟩ := h j hj
  by_cases he : j = k
  · subst he
    constructor
    · rw [World.cell?_setCell_same _ _ _ h1]
      rw [if_pos (by omega)]
    · simpa using h2
  · constructor
    · rw [World.cell?_setCell_other _ _ _ _ (by intro hh; injection hh with a b; exact he b.symm)]
      rw [h1]
      congr 2
      by_cases h3 : j < k
      · rw [if_pos h3, if_pos (by omega)]
      · rw [if_neg h3, if_neg (by omega)]
    · simpa using h2
theorem Xs.set' {X Y k g : Nat} {w : World} (h : Xs X Y k g w) (hk : k < 31) {u : Int} (hu : u = (lim Y k : Nat)) : Xs X Y (k + 1) g (w.setCell ⟨g, k, none⟩ (.int .u32 u)) := by
  subst hu; exact h.set hk
theorem Xs.start {X Y c g : Nat} {w : World} (h : Xs X X 0 g w) (hl : ∀ j, j < c → lim Y j = lim X j) : Xs X Y c g w := fun j hj => by
  obtain ⟨h1, h2⟩ := h j hj
  refine ⟨?_, h2⟩
  rw [h1]
  congr 2
  by_cases h3 : j < c
  · rw [if_pos h3, if_neg (by omega), hl j h3]
  · rw [if_neg h3, if_neg (by omega)]
theorem Xs.all {X Y Z k g : Nat} {w : World} (h : Xs X Y k g w) (h1 : ∀ j, j < 31 → j < k → lim Y j = lim Z j) (h2 : ∀ j, j < 31 → k ≤ j → lim X j = lim Z j) : Xs Z Z 0 g w := fun j hj => by
  obtain ⟨e1, e2⟩ := h j hj
  refine ⟨?_, e2⟩
  rw [e1]
  congr 2
  by_cases h3 : j < k
  · rw [if_pos h3, if_neg (by omega), h1 j hj h3]
  · rw [if_neg h3, if_neg (by omega), h2 j hj (by omega)]
end Go.Proofs.YtpbegoflpfdajaaGreatDoor

namespace Go.Proofs.YtpbegoflpfdajaaGreatDoor
open Go.RowKit

set_option maxHeartbeats 1000000 in
/-- addBack: v is added to the limbs from c on -/
theorem addBack_any (Y v c s g h cp cq : Nat) (hs : c + s ≤ 30) (hv : v < bb ^ s) (hgh : h ≠ g) (w : World) (hx : Xs Y Y 0 g w) (hd : ∀ i, i < s → w.cell? ⟨h, i, none⟩ = some (.int .u32 (lim v i))) :
    Calls Tryz.prog 214 #[.slice (some ⟨g, c, none⟩) (31 - c : Nat) cp, .slice (some ⟨h, 0, none⟩) s cq] w fun e w' => e = .returned (.tuple #[]) ∧ Xs Y (Y + v * bb ^ c) (c + s + 1) g w' ∧ Oth g w w' := by
  have hd0 := lim_of_lt hv
  have hx' := hx.start (c := c) (bk_low (v := v) Y)
  have fl := fun i hi => bk_lim (c := c) hv i hi Y
  have fc := fun i => bk_car (c := c) (v := v) i Y
  have f0 := bk_car0 (v := v) (c := c) Y
  obtain ⟨V, hV⟩ : ∃ V, v * bb ^ c = V := ⟨_, rfl⟩
  rw [hV] at hx' f0 ⊢
  simp only [hV] at fl fc
  have Hd := Lib.hid hd; have Hx := Lib.hid hx'; have FL := Lib.hid fl; have FC := Lib.hid fc; have F0 := Lib.hid f0; have H0 := Lib.hid hd0
  clear hx hd hv hV fl fc f0 hx' hd0
  go_enter Tryz.func214, Tryz.ntmps214
  go_wp2
  go_loopw [4, 9] (fun cr i wr => ∃ k : Nat, k ≤ s ∧ i = .int .i64 k ∧ cr = .int .u32 (car Y V (c + k)) ∧ Xs Y (Y + V) (c + k) g wr ∧ Oth g w wr) (fun _ i _ => s - (intOf i).toNat)
  case atStart => exact ⟨0, by omega, rfl, by rw [F0.out]; rfl, Hx.out, Oth.refl _ _⟩
  case round =>
    obtain ⟨k, hk, rfl, rfl, hX, hO⟩ := hrel
    by_cases hlt : k < s
    · have c1 := hX.at (j := c + k) (by omega) (Nat.le_refl _)
      have c2 := (hO.cell (p := ⟨h, k, none⟩) hgh).trans (Hd.out k hlt)
      have f1 := hX.fr (j := c + k) (by omega)
      have b1 := lim_lt' Y (c + k)
      have b2 := lim_lt' v k
      have b3 := car_le Y V (c + k)
      have e1 := FL.out k hk
      have e2 := FC.out k
      rw [show bb = 1000000000 from rfl] at e1 e2
      have HX := Lib.hid hX; have HO := Lib.hid hO
      clear hX hO
      generalize lim Y (c + k) = p at *
      generalize lim v k = q at *
      generalize car Y V (c + k) = cr at *
      have E2 := Lib.hid e2
      have E1 := Lib.hid e1
      clear e1 e2
      go_wp2_with fail
      go_quiet (fail)
      go_wp2
      go_roundw
      case rel =>
        refine ⟨k + 1, by omega, by go_num, ?_, ?_, ?_⟩
        · rw [E2.out]; exact int_v (by omega)
        · refine (HX.out.set' (by omega) ?_).drewN
          rw [E1.out]; omega
        · exact (HO.out.set _ _).drewN
      case measure => simp [intOf]; omega
    · have he : k = s := by omega
      subst he
      have c1 := hX.at (j := c + k) (by omega) (Nat.le_refl _)
      have f1 := hX.fr (j := c + k) (by omega)
      have b1 := lim_lt' Y (c + k)
      have b3 := car_le Y V (c + k)
      have e1 := FL.out k hk
      rw [H0.out] at e1
      rw [show bb = 1000000000 from rfl] at e1
      have HX := Lib.hid hX; have HO := Lib.hid hO
      clear hX hO
      generalize lim Y (c + k) = p at *
      generalize car Y V (c + k) = cr at *
      have E1 := Lib.hid e1
      clear e1
      go_wp2
      go_end0
      refine ⟨rfl, ?_, HO.out.set _ _⟩
      refine HX.out.set' (by omega) ?_
      rw [E1.out]; omega
end Go.Proofs.YtpbegoflpfdajaaGreatDoor

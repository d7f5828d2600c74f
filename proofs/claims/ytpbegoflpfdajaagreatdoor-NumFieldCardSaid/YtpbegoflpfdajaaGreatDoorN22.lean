/- WHAT IS PROVED: contracts of functions of the numbers package and laws for them, used by the last text of this claim. CONDITIONS: stated at each theorem. -/
import Derived.LoopTactic
import Derived.Test.YtpbegoflpfdajaaGreatDoorN21
namespace Go.Proofs.YtpbegoflpfdajaaGreatDoor
open Go.RowKit
open Go.Lib (decDigits nDigits decDigits_length)

theorem small_one (w : World) : Calls Tryz.prog 94 #[.int .u32 1] w fun e w' => e = .returned (.agg (mgL 1).toArray) ∧ Below w.heap.size w w' := small_any 1 (by unfold bb; omega) w
theorem number_one (w : World) : Calls Tryz.prog 93 #[.agg (mgL 1).toArray, .bool false] w fun e w' => e = .returned (.agg (sgL 1 false).toArray) ∧ Below w.heap.size w w' := by
  have := number_any 1 false (Nat.lt_of_lt_of_le (show 1 < bb ^ 1 by unfold bb; omega) (pow_mono (by omega))) w
  exact this
theorem pw_there0 (w : World) : ((w.alloc (.cells (sgL 0 false).toArray 88)).alloc (.cells (sgL 0 false).toArray 88)).there w.heap.size 0 31 := World.there_alloc (there_at rfl _ 88 (by rw [sgL_len])) _
theorem pw_there1 (w : World) : ((w.alloc (.cells (sgL 0 false).toArray 88)).alloc (.cells (sgL 0 false).toArray 88)).there (w.heap.size + 1) 0 31 := there_at (by simp) _ 88 (by rw [sgL_len])
/-- powers -/
def powR (m : Nat) (s : Bool) : Nat → Nat × Bool
  | 0 => (1, false)
  | j + 1 => ((powR m s j).1 * m, ((powR m s j).2 != s) && !decide ((powR m s j).1 * m = 0))
theorem fit_small {n : Nat} (h : digN n ≤ 120) : n < bb ^ 14 := by
  by_cases h0 : n = 0
  · subst h0; exact bb_pow_pos _
  · unfold digN at h
    rw [if_neg h0] at h
    have := nD_lt 120 n h
    have key : ∀ c, 120 ≤ 9 * c → 10 ^ 120 ≤ bb ^ c := fun c h => by rw [bb_ten, ← Nat.pow_mul]; exact Nat.pow_le_pow_right (by omega) h
    exact Nat.lt_of_lt_of_le this (key 14 (by omega))

set_option maxHeartbeats 1000000 in
set_option maxRecDepth 100000 in
/-- Pow, where no power is too large -/
theorem pow_ok (s : ByteArray) (h : ckL s.data.toList = 0) (n : Nat) (hn : n ≤ 1000) (hfit : ∀ j, j ≤ n → digN (powR (intM s.data.toList) (intS s.data.toList) j).1 ≤ 120) (w : World) (hg : Gl w) :
    Calls Tryz.prog 31 #[.string s, .int .i64 n] w fun e w' => e = .returned (resT (powR (intM s.data.toList) (intS s.data.toList) n).1 (powR (intM s.data.toList) (intS s.data.toList) n).2) ∧ Below w.heap.size w w' := by
  have cc := check_any s w
  rw [h] at cc
  have Cc := Lib.hid cc
  have HG := Lib.hid hg
  have cp := fun w g => parse_ck s h w g
  have hm := intM_small _ h
  obtain ⟨m, hm0⟩ : ∃ m, intM s.data.toList = m := ⟨_, rfl⟩
  obtain ⟨sg, hs0⟩ : ∃ sg, intS s.data.toList = sg := ⟨_, rfl⟩
  rw [hm0, hs0] at cp hfit ⊢
  rw [hm0] at hm
  have Cp := Lib.hid cp
  have Hm := Lib.hid hm
  have Hfit := Lib.hid hfit
  have d1 : decide ((n : Int) < 0) = false := by simp
  have d2 : decide ((1000 : Int) < (n : Int)) = false := by simp; omega
  clear cc hg h cp hm hm0 hs0 hfit
  go_enter Tryz.func31, Tryz.ntmps31
  go_wp2_with (first
    | (go_at_call 12; (with_reducible refine (Cc.out).mono ?_); rintro e w1 ⟨rfl, hb1⟩; have HB1 := Lib.hid hb1; have HG1 := Lib.hid (HG.out.keep hb1); clear hb1)
    | (go_at_call 72; (with_reducible refine (Cp.out _ HG1.out).mono ?_); rintro e w2 ⟨rfl, hb2⟩; have HB2 := Lib.hid (HB1.out.trans (hb2.mono HB1.out.size)); clear hb2)
    | (go_at_call 94; (with_reducible refine (small_one _).mono ?_); rintro e w3 ⟨rfl, hb3⟩; have HB3 := Lib.hid (HB2.out.trans (hb3.mono HB2.out.size)); clear hb3)
    | (go_at_call 93; (with_reducible refine (number_one _).mono ?_); rintro e w4 ⟨rfl, hb4⟩; have HB4 := Lib.hid (HB3.out.trans (hb4.mono HB3.out.size)); clear hb4)
    | ((with_reducible refine al_zb 88 _ w4.heap.size ?_ ?_ z88 ?_); (· exact ⟨rfl, rfl⟩); · rfl)
    | ((with_reducible refine al_zb 88 _ (w4.heap.size + 1) ?_ ?_ z88 ?_); (· exact ⟨rfl, rfl⟩); · (simp; done))
    | ((with_reducible refine st88 w4.heap.size 0 m sg ?_ ?_ ?_); (· exact ⟨rfl, _, _, rfl, rfl, rfl⟩); · exact pw_there0 w4)
    | ((with_reducible refine st88 (w4.heap.size + 1) 0 1 false ?_ ?_ ?_); (· exact ⟨rfl, _, _, rfl, rfl, rfl⟩); · exact World.there_setCells (pw_there1 w4) _ _ _))
  have r7 := range_set (cs := sgL m sg) (pw_there0 w4) (by rw [sgL_len])
  have t8 := World.there_setCells (pw_there1 w4) w4.heap.size 0 (sgL m sg)
  have H7 := Lib.hid (range_setk (b2 := w4.heap.size + 1) (o2 := 0) (vs := sgL 1 false) r7 (by omega))
  have H8 := Lib.hid (range_set (cs := sgL 1 false) t8 (by rw [sgL_len]))
  have T8 := Lib.hid (World.there_setCells t8 (w4.heap.size + 1) 0 (sgL 1 false))
  have hbw : Below w.heap.size w ((((w4.alloc (.cells (sgL 0 false).toArray 88)).alloc (.cells (sgL 0 false).toArray 88)).setCells w4.heap.size 0 (sgL m sg)).setCells (w4.heap.size + 1) 0 (sgL 1 false)) :=
    below_set (below_set ((HB4.out.alloc HB4.out.size (.cells (sgL 0 false).toArray 88)).alloc (by have := HB4.out.size; simp; omega) (.cells (sgL 0 false).toArray 88)) (by have := HB4.out.size; omega) 0 (sgL m sg)) (by have := HB4.out.size; omega) 0 (sgL 1 false)
  have HBW := Lib.hid hbw; clear hbw
  clear r7 t8
  go_loopw [26] (fun i wr => ∃ k : Nat, i = .int .i64 k ∧ k ≤ n ∧ wr.rangeAt w4.heap.size 0 (sgL m sg) ∧ wr.rangeAt (w4.heap.size + 1) 0 (sgL (powR m sg k).1 (powR m sg k).2) ∧ wr.there (w4.heap.size + 1) 0 31 ∧ Below w.heap.size w wr) (fun i _ => n - (intOf i).toNat)
  case atStart => exact ⟨0, rfl, by omega, H7.out, H8.out, T8.out, HBW.out⟩
  case round =>
    obtain ⟨k, rfl, hk, r7, r8, t8, hb⟩ := hrel
    by_cases hlt : k < n
    · have d3 : decide ((k : Int) < (n : Int)) = true := by simp; omega
      have hp := fit_small (Hfit.out k (by omega))
      have hf := Hfit.out (k + 1) (by omega)
      have e1 : (powR m sg (k + 1)).1 = (powR m sg k).1 * m := rfl
      have e2 : (powR m sg (k + 1)).2 = (((powR m sg k).2 != sg) && !decide ((powR m sg k).1 * m = 0)) := rfl
      rw [e1] at hf
      obtain ⟨p, hp0⟩ : ∃ p, (powR m sg k).1 = p := ⟨_, rfl⟩
      obtain ⟨q, hq0⟩ : ∃ q, (powR m sg k).2 = q := ⟨_, rfl⟩
      rw [hp0] at e1 e2 hp hf r8
      rw [hq0] at e2 r8
      have ct := fun w => timesS_any p m q sg (big_of hp) (big_of Hm.out) (mul_lt hp Hm.out) w
      rw [← e2] at ct
      obtain ⟨u, hu⟩ : ∃ u, p * m = u := ⟨_, rfl⟩
      obtain ⟨z, hz⟩ : ∃ z, (powR m sg (k + 1)).2 = z := ⟨_, rfl⟩
      rw [hu] at e1 hf ct
      rw [hz] at ct
      have cf := fun w g => fits_any u z (big_of (fit_small hf)) w g
      rw [show fitsV u = 0 by unfold fitsV; rw [if_neg (by omega)]] at cf
      have Ct := Lib.hid ct; have Cf := Lib.hid cf
      have R7 := Lib.hid r7; have R8 := Lib.hid r8; have T8 := Lib.hid t8; have Hb := Lib.hid hb
      have E1 := Lib.hid e1; have Hz := Lib.hid hz
      clear ct cf r7 r8 t8 hb e1 e2 hp hf hp0 hq0 hu hz
      go_wp2_with (first
        | ((with_reducible refine ld88 (w4.heap.size + 1) 0 p q ?_ ?_ ?_); (· exact ⟨rfl, _, rfl, rfl⟩); · exact R8.out)
        | ((with_reducible refine ld88 w4.heap.size 0 m sg ?_ ?_ ?_); (· exact ⟨rfl, _, rfl, rfl⟩); · exact R7.out)
        | (go_at_call 83; (with_reducible refine (Ct.out _).mono ?_); rintro e w5 ⟨rfl, hb5⟩; have HB5 := Lib.hid (Hb.out.trans (hb5.mono Hb.out.size)); have R75 := Lib.hid (range_keep R7.out hb5); have T85 := Lib.hid (there_keep T8.out hb5); have HB6 := Lib.hid (below_set HB5.out (show w.heap.size ≤ w4.heap.size + 1 by have := HB4.out.size; omega) 0 (sgL u z)); clear hb5)
        | ((with_reducible refine st88 (w4.heap.size + 1) 0 u z ?_ ?_ ?_); (· exact ⟨rfl, _, _, rfl, rfl, rfl⟩); · exact T85.out)
        | ((with_reducible refine ld88 (w4.heap.size + 1) 0 u z ?_ ?_ ?_); (· exact ⟨rfl, _, rfl, rfl⟩); · exact range_set T85.out (by rw [sgL_len]))
        | (go_at_call 89; (with_reducible refine (Cf.out _ (HG.out.keep HB6.out)).mono ?_); rintro e w7 ⟨rfl, hb7⟩; have HB7 := Lib.hid (HB6.out.trans (hb7.mono HB6.out.size)); have R77 := Lib.hid (range_keep (range_setk (b2 := w4.heap.size + 1) (o2 := 0) (vs := sgL u z) R75.out (by omega)) hb7); have R87 := Lib.hid (range_keep (range_set T85.out (by rw [sgL_len]) : World.rangeAt _ _ _ (sgL u z)) hb7); have T87 := Lib.hid (there_keep (World.there_setCells T85.out (w4.heap.size + 1) 0 (sgL u z)) hb7); clear hb7))
      go_roundw
      case rel => exact ⟨k + 1, by go_num, by omega, R77.out, by rw [E1.out, Hz.out]; exact R87.out, T87.out, HB7.out⟩
      case measure => simp [intOf]; omega
    · have hkn : k = n := by omega
      have d3 : decide ((k : Int) < (n : Int)) = false := by simp; omega
      rw [hkn] at r8
      have hp := big_of (fit_small (Hfit.out n (by omega)))
      have cr := fun w g => result_any (powR m sg n).1 (powR m sg n).2 hp w g
      obtain ⟨p, hp0⟩ : ∃ p, (powR m sg n).1 = p := ⟨_, rfl⟩
      obtain ⟨q, hq0⟩ : ∃ q, (powR m sg n).2 = q := ⟨_, rfl⟩
      rw [hp0, hq0] at cr r8
      obtain ⟨T, hT⟩ : ∃ T : ByteArray, (if digN p ≤ 120 then (⟨(sgText p q).toArray⟩ : ByteArray) else ⟨#[]⟩) = T := ⟨_, rfl⟩
      obtain ⟨E, hE⟩ : ∃ E, fitsV p = E := ⟨_, rfl⟩
      rw [hT, hE] at cr
      have Cr := Lib.hid cr
      have R8 := Lib.hid r8; have Hb := Lib.hid hb
      have HT := Lib.hid hT; have HE := Lib.hid hE; have HP := Lib.hid hp0; have HQ := Lib.hid hq0
      clear cr r7 r8 t8 hb hp hp0 hq0 hT hE hkn
      go_wp2_with (first
        | ((with_reducible refine ld88 (w4.heap.size + 1) 0 p q ?_ ?_ ?_); (· exact ⟨rfl, _, rfl, rfl⟩); · exact R8.out)
        | (go_at_call 74; (with_reducible refine (Cr.out _ (HG.out.keep Hb.out)).mono ?_); rintro e w5 ⟨rfl, hb5⟩; have HB5 := Lib.hid (Hb.out.trans (hb5.mono Hb.out.size)); clear hb5))
      go_ret2
      refine ⟨?_, HB5.out⟩
      unfold resT
      rw [HP.out, HQ.out, HT.out, HE.out]; rfl
end Go.Proofs.YtpbegoflpfdajaaGreatDoor

namespace Go.Proofs.YtpbegoflpfdajaaGreatDoor
open Go.RowKit

set_option maxHeartbeats 1000000 in
theorem divide_lt (m o : Nat) (hm : m < bb ^ 30) (ho : o < bb ^ 30) (hlt : m < o) (w : World) :
    Calls Tryz.prog 154 #[.agg (mgL m).toArray, .agg (mgL o).toArray] w fun e w' => e = .returned (.tuple #[.agg (mgL 0).toArray, .agg (mgL m).toArray]) ∧ Below w.heap.size w w' := by
  have hc := fun w => compare_any m o hm ho w
  obtain ⟨x, hx⟩ : ∃ x, cmpN m o = x := ⟨_, rfl⟩
  rw [hx] at hc
  have t1 : decide (x < 0) = true := by simpa [cmp_neg hx] using hlt
  have Hc := Lib.hid hc
  have Hr0 := Lib.hid (show (((((w.alloc (.cells (mgL m).toArray 86)).alloc (.cells (mgL o).toArray 86)).alloc (.cells (mgL 0).toArray 86)).alloc (.cells (mgL 0).toArray 86))).rangeAt w.heap.size 0 (mgL m) from World.rangeAt_alloc (World.rangeAt_alloc (World.rangeAt_alloc (range_new w _ 86) _) _) _)
  have Hr1 := Lib.hid (show (((((w.alloc (.cells (mgL m).toArray 86)).alloc (.cells (mgL o).toArray 86)).alloc (.cells (mgL 0).toArray 86)).alloc (.cells (mgL 0).toArray 86))).rangeAt (w.heap.size + 1) 0 (mgL o) from World.rangeAt_alloc (World.rangeAt_alloc (range_at (by simp) _ 86) _) _)
  have Ht2 := Lib.hid (show (((((w.alloc (.cells (mgL m).toArray 86)).alloc (.cells (mgL o).toArray 86)).alloc (.cells (mgL 0).toArray 86)).alloc (.cells (mgL 0).toArray 86))).there (w.heap.size + 2) 0 30 from World.there_alloc (there_at (by simp) _ 86 (by rw [mgL_len])) _)
  have Ht3 := Lib.hid (show (((((w.alloc (.cells (mgL m).toArray 86)).alloc (.cells (mgL o).toArray 86)).alloc (.cells (mgL 0).toArray 86)).alloc (.cells (mgL 0).toArray 86))).there (w.heap.size + 3) 0 30 from there_at (by simp) _ 86 (by rw [mgL_len]))
  have Hb := Lib.hid (show Below w.heap.size w (((((w.alloc (.cells (mgL m).toArray 86)).alloc (.cells (mgL o).toArray 86)).alloc (.cells (mgL 0).toArray 86)).alloc (.cells (mgL 0).toArray 86))) from ((((Below.refl w.heap.size w).alloc (Nat.le_refl _) _).alloc (by simp) _).alloc (by simp; omega) _).alloc (by simp; omega) _)
  clear hc hx hlt hm ho
  go_enter Tryz.func154, Tryz.ntmps154
  go_wp2_with (first
    | ((with_reducible refine al_zb 86 _ (w.heap.size + 2) ?_ ?_ z86 ?_); (· exact ⟨rfl, rfl⟩); · (simp; done))
    | ((with_reducible refine al_zb 86 _ (w.heap.size + 3) ?_ ?_ z86 ?_); (· exact ⟨rfl, rfl⟩); · (simp; done))
    | ((with_reducible refine ld86 w.heap.size 0 m ?_ ?_ ?_); (· exact ⟨rfl, _, rfl, rfl⟩); · exact Hr0.out)
    | ((with_reducible refine ld86 (w.heap.size + 1) 0 o ?_ ?_ ?_); (· exact ⟨rfl, _, rfl, rfl⟩); · exact Hr1.out)
    | (go_at_call 146; (with_reducible refine (Hc.out _).mono ?_); rintro e w1 ⟨rfl, hb1⟩; have HB1 := Lib.hid hb1; clear hb1))

  have HBx := Lib.hid (Hb.out.trans (HB1.out.mono Hb.out.size))
  refine wp_region_held_drew (S := (fun w' => Below w.heap.size w w' ∧ w'.rangeAt w.heap.size 0 (mgL m) ∧ w'.there (w.heap.size + 2) 0 30 ∧ w'.there (w.heap.size + 3) 0 30)) (by kernel_rfl) ?_ (fun hH => ?_)
  · exact ⟨HBx.out.drew, range_keep Hr0.out HB1.out.drew, there_keep Ht2.out HB1.out.drew, there_keep Ht3.out HB1.out.drew⟩
  try dsimp only at hH
  refine wpAnyH_take (i := 0) (v := (.agg (mgL 0).toArray)) rfl (by kernel_rfl) (by kernel_rfl) (by kernel_rfl) (fun _ _ _ h => h) (Or.inl ⟨by rfl, fun wz hz => by rw [zero_mg]; go_simp⟩) hH ?_
  try simp only [Act.put, List.getElem_toArray, List.getElem_cons_zero, List.setIfInBounds_toArray, List.set_cons_zero, List.set_cons_succ]
  refine wpAnyH_take (i := 1) (v := (.agg (mgL m).toArray)) rfl (by kernel_rfl) (by kernel_rfl) (by kernel_rfl) (fun _ _ _ h => h) (yld86 w.heap.size 0 m rfl ⟨_, rfl, rfl⟩ (fun wz hz => hz.2.1)) hH ?_
  try simp only [Act.put, List.getElem_toArray, List.getElem_cons_succ, List.getElem_cons_zero, List.setIfInBounds_toArray, List.set_cons_zero, List.set_cons_succ]
  refine wpAnyH_ready (rs := [2]) (by kernel_rfl) (by simp) ?_
  refine AllReadyH.cons rfl (fun K hK => ?_) AllReadyH.nil
  simp only [List.getElem_toArray, List.getElem_cons_succ, List.getElem_cons_zero]
  rw [if_pos (by rfl)]
  with_reducible refine wst86 (w.heap.size + 2) 0 0 ?_ hH.2.2.1 ?_
  · exact ⟨_, _, rfl, rfl, rfl⟩
  refine hK.out _ _ ?_ (fun hH1 => ?_)
  · exact ⟨below_set hH.1 (by omega) _ _, range_setk hH.2.1 (by first | trivial | omega), there_setk hH.2.2.1 (by first | trivial | omega), there_setk hH.2.2.2 (by first | trivial | omega)⟩
  clear hK K
  try simp only [Act.put]
  refine wpAnyH_ready (rs := [3]) (by kernel_rfl) (by simp) ?_
  refine AllReadyH.cons rfl (fun K hK => ?_) AllReadyH.nil
  simp only [List.getElem_toArray, List.getElem_cons_succ, List.getElem_cons_zero]
  rw [if_pos (by rfl)]
  with_reducible refine wst86 (w.heap.size + 3) 0 m ?_ hH1.2.2.2 ?_
  · exact ⟨_, _, rfl, rfl, rfl⟩
  refine hK.out _ _ ?_ (fun hH2 => ?_)
  · exact ⟨below_set hH1.1 (by omega) _ _, range_setk hH1.2.1 (by first | trivial | omega), there_setk hH1.2.2.1 (by first | trivial | omega), there_setk hH1.2.2.2 (by first | trivial | omega)⟩
  clear hK K
  try simp only [Act.put]
  refine wpAnyH_done (by kernel_rfl) ?_ _
  go_wp2
  exact ret_cell_cell Tryz.results154 (w.heap.size + 2) 0 (w.heap.size + 3) 0 rfl rfl 0 m (range_setk (range_set hH.2.2.1 (by rw [mgL_len])) (by omega)) (range_set hH1.2.2.2 (by rw [mgL_len])) rfl ⟨rfl, hH2.1⟩
end Go.Proofs.YtpbegoflpfdajaaGreatDoor

namespace Go.Proofs.YtpbegoflpfdajaaGreatDoor
open Go.RowKit

set_option maxHeartbeats 1000000 in
theorem divide_limb (m o : Nat) (hm : m < bb ^ 30) (ho : o < bb) (h0 : 0 < o) (hge : o ≤ m) (w : World) :
    Calls Tryz.prog 154 #[.agg (mgL m).toArray, .agg (mgL o).toArray] w fun e w' => e = .returned (.tuple #[.agg (mgL (m / o)).toArray, .agg (mgL (m % o)).toArray]) ∧ Below w.heap.size w w' := by
  have ho30 : o < bb ^ 30 := Nat.lt_of_lt_of_le (show o < bb ^ 1 by rw [Nat.pow_one]; exact ho) (pow_mono (by omega))
  have hc := fun w => compare_any m o hm ho30 w
  obtain ⟨x, hx⟩ : ∃ x, cmpN m o = x := ⟨_, rfl⟩
  rw [hx] at hc
  have t1 : decide (x < 0) = false := by simpa [cmp_neg hx] using hge
  have hs1 : lsz o = 1 := by rw [lsz_pos (by omega), Nat.div_eq_of_lt ho, lsz_zero]
  have cs := fun w => size_any o ho30 w
  rw [hs1] at cs
  change ∀ w, Calls Tryz.prog 159 #[.agg (mgL o).toArray] w (fun e w' => e = .returned (.int .i64 1) ∧ Below w.heap.size w w') at cs
  have Cs := Lib.hid cs
  have Hc := Lib.hid hc
  have Cd := Lib.hid (fun w => divLimb_any m o hm h0 ho w)
  have Cr := Lib.hid (fun w => small_any (m % o) (Nat.lt_trans (Nat.mod_lt _ h0) ho) w)
  have Hlo := Lib.hid (show lim o 0 = o from lim_small ho)
  have Hr0 := Lib.hid (show (((((w.alloc (.cells (mgL m).toArray 86)).alloc (.cells (mgL o).toArray 86)).alloc (.cells (mgL 0).toArray 86)).alloc (.cells (mgL 0).toArray 86))).rangeAt w.heap.size 0 (mgL m) from World.rangeAt_alloc (World.rangeAt_alloc (World.rangeAt_alloc (range_new w _ 86) _) _) _)
  have Hr1 := Lib.hid (show (((((w.alloc (.cells (mgL m).toArray 86)).alloc (.cells (mgL o).toArray 86)).alloc (.cells (mgL 0).toArray 86)).alloc (.cells (mgL 0).toArray 86))).rangeAt (w.heap.size + 1) 0 (mgL o) from World.rangeAt_alloc (World.rangeAt_alloc (range_at (by simp) _ 86) _) _)
  have Ht2 := Lib.hid (show (((((w.alloc (.cells (mgL m).toArray 86)).alloc (.cells (mgL o).toArray 86)).alloc (.cells (mgL 0).toArray 86)).alloc (.cells (mgL 0).toArray 86))).there (w.heap.size + 2) 0 30 from World.there_alloc (there_at (by simp) _ 86 (by rw [mgL_len])) _)
  have Ht3 := Lib.hid (show (((((w.alloc (.cells (mgL m).toArray 86)).alloc (.cells (mgL o).toArray 86)).alloc (.cells (mgL 0).toArray 86)).alloc (.cells (mgL 0).toArray 86))).there (w.heap.size + 3) 0 30 from there_at (by simp) _ 86 (by rw [mgL_len]))
  have Hb := Lib.hid (show Below w.heap.size w (((((w.alloc (.cells (mgL m).toArray 86)).alloc (.cells (mgL o).toArray 86)).alloc (.cells (mgL 0).toArray 86)).alloc (.cells (mgL 0).toArray 86))) from ((((Below.refl w.heap.size w).alloc (Nat.le_refl _) _).alloc (by simp) _).alloc (by simp; omega) _).alloc (by simp; omega) _)
  clear hc hx hm ho h0 hge ho30 hs1 cs
  obtain ⟨q, hq⟩ : ∃ q, m / o = q := ⟨_, rfl⟩
  obtain ⟨r, hr⟩ : ∃ r, m % o = r := ⟨_, rfl⟩
  rw [hq, hr] at Cd ⊢
  rw [hr] at Cr
  clear hq hr
  go_enter Tryz.func154, Tryz.ntmps154
  go_wp2_with (first
    | ((with_reducible refine al_zb 86 _ (w.heap.size + 2) ?_ ?_ z86 ?_); (· exact ⟨rfl, rfl⟩); · (simp; done))
    | ((with_reducible refine al_zb 86 _ (w.heap.size + 3) ?_ ?_ z86 ?_); (· exact ⟨rfl, rfl⟩); · (simp; done))
    | ((with_reducible refine ld86 w.heap.size 0 m ?_ ?_ ?_); (· exact ⟨rfl, _, rfl, rfl⟩); · first | exact Hr0.out | exact range_keep Hr0.out HB2.out | exact range_keep Hr0.out HB1.out)
    | ((with_reducible refine ld86 (w.heap.size + 1) 0 o ?_ ?_ ?_); (· exact ⟨rfl, _, rfl, rfl⟩); · first | exact Hr1.out | exact range_keep Hr1.out HB1.out)
    | (go_at_call 146; (with_reducible refine (Hc.out _).mono ?_); rintro e w1 ⟨rfl, hb1⟩; have HB1 := Lib.hid hb1; clear hb1)
    | (go_at_call 159; (with_reducible refine (Cs.out _).mono ?_); rintro e w2 ⟨rfl, hb2⟩; have HB2 := Lib.hid (HB1.out.trans (hb2.mono HB1.out.size)); have hl := cell_of_range (range_keep Hr1.out HB2.out) (mgL_get (n := o) (i := 0) (by omega)); rw [Hlo.out] at hl; clear hb2)
    | (go_at_call 196; (with_reducible refine (Cd.out _).mono ?_); rintro e w3 ⟨rfl, hb3⟩; have HB3 := Lib.hid (HB2.out.trans (hb3.mono HB2.out.size)); clear hb3)
    | ((with_reducible refine al_zb 86 _ w3.heap.size ?_ ?_ z86 ?_); (· exact ⟨rfl, rfl⟩); · rfl)
    | ((with_reducible refine st86 w3.heap.size 0 q ?_ ?_ ?_); (· exact ⟨rfl, _, _, rfl, rfl, rfl⟩); · exact there_at rfl _ 86 (by rw [mgL_len])))

  have hw3 := HB3.out.size
  have Hsz := Lib.hid (show w.heap.size + 4 ≤ w3.heap.size by simp at hw3; omega)
  have hsz := Hsz.out
  have HBx := Lib.hid (below_set ((Hb.out.trans (HB3.out.mono Hb.out.size)).alloc (by omega) (.cells (mgL 0).toArray 86)) (show w.heap.size ≤ w3.heap.size by omega) 0 (mgL q))
  have Hq := Lib.hid (range_set (cs := mgL q) (there_at rfl _ 86 (by rw [mgL_len]) : World.there (w3.alloc (.cells (mgL 0).toArray 86)) w3.heap.size 0 30) (by rw [mgL_len]))
  have Ht2x := Lib.hid (World.there_setCells (World.there_alloc (there_keep Ht2.out HB3.out) (.cells (mgL 0).toArray 86)) w3.heap.size 0 (mgL q))
  have Ht3x := Lib.hid (World.there_setCells (World.there_alloc (there_keep Ht3.out HB3.out) (.cells (mgL 0).toArray 86)) w3.heap.size 0 (mgL q))
  clear hw3
  refine wp_region_held_drew (S := (fun w' => Below w.heap.size w w' ∧ w'.rangeAt w3.heap.size 0 (mgL q) ∧ w'.there (w.heap.size + 2) 0 30 ∧ w'.there (w.heap.size + 3) 0 30)) (by kernel_rfl) ?_ (fun hH => ?_)
  · exact ⟨HBx.out.drew, Hq.out, Ht2x.out, Ht3x.out⟩
  try dsimp only at hH
  refine wpAnyH_take (i := 0) (v := (.agg (mgL q).toArray)) rfl (by kernel_rfl) (by kernel_rfl) (by kernel_rfl) (fun _ _ _ h => h) (yld86 w3.heap.size 0 q rfl ⟨_, rfl, rfl⟩ (fun wz hz => hz.2.1)) hH ?_
  try simp only [Act.put, List.getElem_toArray, List.getElem_cons_zero, List.setIfInBounds_toArray, List.set_cons_zero, List.set_cons_succ]
  refine wpAnyH_take (i := 1) (v := (.int .u32 r)) rfl (by kernel_rfl) (by kernel_rfl) (by kernel_rfl) (fun _ _ _ h => h) (Or.inl ⟨by rfl, fun wz hz => by skip; go_simp⟩) hH ?_
  try simp only [Act.put, List.getElem_toArray, List.getElem_cons_succ, List.getElem_cons_zero, List.setIfInBounds_toArray, List.set_cons_zero, List.set_cons_succ]
  refine wpAnyH_ready (rs := [2]) (by kernel_rfl) (by simp) ?_
  refine AllReadyH.cons rfl (fun K hK => ?_) AllReadyH.nil
  simp only [List.getElem_toArray, List.getElem_cons_succ, List.getElem_cons_zero]
  rw [if_pos (by rfl)]
  go_simp
  refine (Cr.out _).mono ?_; rintro e w1 ⟨rfl, hb1⟩
  try simp only []
  refine hK.out _ _ ?_ (fun hH1 => ?_)
  · exact ⟨(hH.1).trans (hb1.mono (hH.1).size), range_keep hH.2.1 hb1, there_keep hH.2.2.1 hb1, there_keep hH.2.2.2 hb1⟩
  clear hK K
  try simp only [Act.put, List.getElem_toArray, List.getElem_cons_succ, List.getElem_cons_zero, List.setIfInBounds_toArray, List.set_cons_zero, List.set_cons_succ]
  refine wpAnyH_ready (rs := [3]) (by kernel_rfl) (by simp) ?_
  refine AllReadyH.cons rfl (fun K hK => ?_) AllReadyH.nil
  simp only [List.getElem_toArray, List.getElem_cons_succ, List.getElem_cons_zero]
  rw [if_pos (by rfl)]
  with_reducible refine wst86 (w.heap.size + 2) 0 q ?_ hH1.2.2.1 ?_
  · exact ⟨_, _, rfl, rfl, rfl⟩
  refine hK.out _ _ ?_ (fun hH2 => ?_)
  · exact ⟨below_set hH1.1 (by omega) _ _, range_setk hH1.2.1 (by first | trivial | omega), there_setk hH1.2.2.1 (by first | trivial | omega), there_setk hH1.2.2.2 (by first | trivial | omega)⟩
  clear hK K
  try simp only [Act.put]
  refine wpAnyH_ready (rs := [4]) (by kernel_rfl) (by simp) ?_
  refine AllReadyH.cons rfl (fun K hK => ?_) AllReadyH.nil
  simp only [List.getElem_toArray, List.getElem_cons_succ, List.getElem_cons_zero]
  rw [if_pos (by rfl)]
  with_reducible refine wst86 (w.heap.size + 3) 0 r ?_ hH2.2.2.2 ?_
  · exact ⟨_, _, rfl, rfl, rfl⟩
  refine hK.out _ _ ?_ (fun hH3 => ?_)
  · exact ⟨below_set hH2.1 (by omega) _ _, range_setk hH2.2.1 (by first | trivial | omega), there_setk hH2.2.2.1 (by first | trivial | omega), there_setk hH2.2.2.2 (by first | trivial | omega)⟩
  clear hK K
  try simp only [Act.put]
  refine wpAnyH_done (by kernel_rfl) ?_ _
  go_wp2
  exact ret_cell_cell Tryz.results154 (w.heap.size + 2) 0 (w.heap.size + 3) 0 rfl rfl q r (range_setk (range_set hH1.2.2.1 (by rw [mgL_len])) (by omega)) (range_set hH2.2.2.2 (by rw [mgL_len])) rfl ⟨rfl, hH3.1⟩
end Go.Proofs.YtpbegoflpfdajaaGreatDoor

namespace Go.Proofs.YtpbegoflpfdajaaGreatDoor
open Go.RowKit

theorem mg_word (n : Nat) (hn : n < bb ^ 2) : (mgL (n % bb)).set 1 (.int .u32 ((n / bb : Nat) : Int)) = mgL n := by
  have h1 : n / bb < bb := by rw [Nat.div_lt_iff_lt_mul bb_pos]; rwa [Nat.pow_two] at hn
  have h0 : n % bb < bb := Nat.mod_lt _ bb_pos
  apply List.ext_getElem?
  intro i
  rw [List.getElem?_set]
  by_cases h : 1 = i
  · subst h
    rw [if_pos rfl, if_pos (by rw [mgL_len]; omega), mgL_get (by omega)]
    congr 2
    unfold lim
    rw [Nat.pow_one, Nat.mod_eq_of_lt h1]
  · rw [if_neg h]
    by_cases hi : i < 30
    · rw [mgL_get hi, mgL_get hi]
      congr 2
      cases i with
      | zero => rw [lim_small h0]; unfold lim; simp
      | succ i =>
        rw [lim_small_succ h0]
        rw [lim_of_lt' (i := 2) hn (by omega)]
    · rw [List.getElem?_eq_none (by rw [mgL_len]; omega), List.getElem?_eq_none (by rw [mgL_len]; omega)]

theorem fw_facts (w1 : World) (a n b : Nat) (h : (mgL a).set 1 (.int .u32 (b : Int)) = mgL n) :
    ((w1.alloc (.cells (mgL 0).toArray 86)).setCells w1.heap.size 0 (mgL a)).cell? ⟨w1.heap.size, 1, none⟩ = some (.int .u32 (lim a 1)) ∧
    ((w1.alloc (.cells (mgL 0).toArray 86)).setCells w1.heap.size 0 (mgL a)).frozen? ⟨w1.heap.size, 1, none⟩ = false ∧
    (((w1.alloc (.cells (mgL 0).toArray 86)).setCells w1.heap.size 0 (mgL a)).setCell ⟨w1.heap.size, 1, none⟩ (.int .u32 (b : Int))).rangeAt w1.heap.size 0 (mgL n) := by
  have ht : (w1.alloc (.cells (mgL 0).toArray 86)).there w1.heap.size 0 30 := there_at rfl _ 86 (by rw [mgL_len])
  have hr := range_set (cs := mgL a) ht (by rw [mgL_len])
  refine ⟨cell_of_range hr (mgL_get (by omega)), ?_, ?_⟩
  · have := (World.there_setCells ht w1.heap.size 0 (mgL a) 1 (by omega)).2
    rwa [Nat.zero_add] at this
  · rw [← h]; exact range_setCell hr 1 _ (by rw [mgL_len]; omega)

set_option maxHeartbeats 400000 in
/-- fromWord -/
theorem fromWord_any (n : Nat) (hn : n < bb ^ 2) (w : World) :
    Calls Tryz.prog 160 #[.int .u64 n] w fun e w' => e = .returned (.agg (mgL n).toArray) ∧ Below w.heap.size w w' := by
  have hb : bb ^ 2 = 1000000000000000000 := by unfold bb; rfl
  have h64 : n < 1000000000000000000 := by rw [← hb]; exact hn
  have HW := Lib.hid (mg_word n hn)
  have h1 : n % bb = n % 1000000000 := rfl
  have Cs := Lib.hid (fun w => small_any (n % bb) (Nat.mod_lt _ bb_pos) w)
  have e1 : IntKind.u32.wrap ((n : Int) % 1000000000) = ((n % bb : Nat) : Int) := by rw [h1, IntWalk.u32_in _ (by omega)]; omega
  have e2 : IntKind.u32.wrap (IntKind.u64.wrap ((n : Int) / 1000000000)) = ((n / bb : Nat) : Int) := by
    show _ = ((n / 1000000000 : Nat) : Int)
    rw [IntWalk.u64_in _ (by omega), IntWalk.u32_in _ (by omega)]; omega
  clear hb h1
  obtain ⟨a, ha⟩ : ∃ a, n % bb = a := ⟨_, rfl⟩
  obtain ⟨b, hb⟩ : ∃ b, n / bb = b := ⟨_, rfl⟩
  rw [ha] at e1 Cs HW
  rw [hb] at e2 HW
  clear ha hb hn h64
  have HT0 := Lib.hid (show (w.alloc (.cells (mgL 0).toArray 86)).there w.heap.size 0 30 from there_at rfl _ 86 (by rw [mgL_len]))
  go_enter Tryz.func160, Tryz.ntmps160
  go_wp2_with (first
    | ((with_reducible refine al_zb 86 _ w.heap.size ?_ ?_ z86 ?_); (· exact ⟨rfl, rfl⟩); · rfl)
    | (go_at_call 94; (with_reducible refine (Cs.out _).mono ?_); rintro e w1 ⟨rfl, hb1⟩; have HB1 := Lib.hid hb1; have FW := Lib.hid (fw_facts w1 a n b HW.out); have hc := FW.out.1; have hf := FW.out.2.1; clear hb1)
    | ((with_reducible refine al_zb 86 _ w1.heap.size ?_ ?_ z86 ?_); (· exact ⟨rfl, rfl⟩); · rfl)
    | ((with_reducible refine st86 w1.heap.size 0 a ?_ ?_ ?_); (· exact ⟨rfl, _, _, rfl, rfl, rfl⟩); · exact there_at rfl _ 86 (by rw [mgL_len]))
    | ((with_reducible refine ld86 w1.heap.size 0 n ?_ ?_ ?_); (· exact ⟨rfl, _, rfl, rfl⟩); · exact FW.out.2.2)
    | ((with_reducible refine st86 w.heap.size 0 n ?_ ?_ ?_); (· exact ⟨rfl, _, _, rfl, rfl, rfl⟩); · exact there_setCell (World.there_setCells (World.there_alloc (there_keep HT0.out HB1.out) _) _ _ _) _ _))
  have hw1 := HB1.out.size
  have hs : w.heap.size + 1 ≤ w1.heap.size := by simpa using hw1
  have hb0 : Below w.heap.size w (w.alloc (.cells (mgL 0).toArray 86)) := (Below.refl _ _).alloc (Nat.le_refl _) _
  refine ret86 Tryz.results160 w.heap.size 0 rfl n (range_set (there_setCell (World.there_setCells (World.there_alloc (there_keep HT0.out HB1.out) _) _ _ _) _ _) (by rw [mgL_len])) rfl ⟨rfl, ?_⟩
  exact below_set ((below_set ((hb0.trans (HB1.out.mono hb0.size)).alloc (by omega) _) (by omega) _ _).setCell (p := ⟨w1.heap.size, 1, none⟩) (by simp; omega) _) (Nat.le_refl _) _ _
end Go.Proofs.YtpbegoflpfdajaaGreatDoor

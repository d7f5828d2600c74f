/- WHAT IS PROVED: contracts of functions of the numbers package and laws for them, used by the last text of this claim. CONDITIONS: stated at each theorem. -/
import Derived.Test.YtpbegoflpfdajaaGreatDoorN22
import Derived.Test.YtpbegoflpfdajaaGreatDoorN20
namespace Go.Proofs.YtpbegoflpfdajaaGreatDoor
open Go.RowKit

/-- divide, where the divisor is greater or has one limb -/
theorem divide_any (m o : Nat) (hm : m < bb ^ 30) (ho : o < bb) (h0 : 0 < o) (w : World) :
    Calls Tryz.prog 154 #[.agg (mgL m).toArray, .agg (mgL o).toArray] w fun e w' => e = .returned (.tuple #[.agg (mgL (m / o)).toArray, .agg (mgL (m % o)).toArray]) ∧ Below w.heap.size w w' := by
  by_cases h : m < o
  · rw [Nat.div_eq_of_lt h, Nat.mod_eq_of_lt h]
    exact divide_lt m o hm (Nat.lt_of_lt_of_le (show o < bb ^ 1 by rw [Nat.pow_one]; exact ho) (pow_mono (by omega))) h w
  · exact divide_limb m o hm ho h0 (by omega) w

theorem gd_there0 (w : World) : ((w.alloc (.cells (mgL 0).toArray 86)).alloc (.cells (mgL 0).toArray 86)).there w.heap.size 0 30 := World.there_alloc (there_at rfl _ 86 (by rw [mgL_len])) _
theorem gd_there1 (w : World) : ((w.alloc (.cells (mgL 0).toArray 86)).alloc (.cells (mgL 0).toArray 86)).there (w.heap.size + 1) 0 30 := there_at (by simp) _ 86 (by rw [mgL_len])
set_option maxHeartbeats 1000000 in
theorem gcd_pos (m o : Nat) (hm : m < bb ^ 30) (ho : o < bb) (h0 : 0 < o) (w : World) :
    Calls Tryz.prog 96 #[.agg (mgL m).toArray, .agg (mgL o).toArray] w fun e w' => e = .returned (.agg (mgL (Nat.gcd m o)).toArray) ∧ Below w.heap.size w w' := by
  have ho30 : o < bb ^ 30 := Nat.lt_of_lt_of_le (show o < bb ^ 1 by rw [Nat.pow_one]; exact ho) (pow_mono (by omega))
  have hs1 : lsz o = 1 := by rw [lsz_pos (by omega), Nat.div_eq_of_lt ho, lsz_zero]
  have cs := fun w => size_any o ho30 w
  rw [hs1] at cs
  change ∀ w, Calls Tryz.prog 159 #[.agg (mgL o).toArray] w (fun e w' => e = .returned (.int .i64 1) ∧ Below w.heap.size w w') at cs
  have Cs := Lib.hid cs
  have cz := fun w => isZero_any o ho30 w
  rw [show decide (o = 0) = false by simp; omega] at cz
  have Cz := Lib.hid cz
  have Cd := Lib.hid (fun w => divide_any m o hm ho h0 w)
  have Hr0 := Lib.hid (show ((((w.alloc (.cells (mgL m).toArray 86)).alloc (.cells (mgL o).toArray 86)).alloc (.cells (mgL 0).toArray 86))).rangeAt w.heap.size 0 (mgL m) from World.rangeAt_alloc (World.rangeAt_alloc (range_new w _ 86) _) _)
  have Hr1 := Lib.hid (show ((((w.alloc (.cells (mgL m).toArray 86)).alloc (.cells (mgL o).toArray 86)).alloc (.cells (mgL 0).toArray 86))).rangeAt (w.heap.size + 1) 0 (mgL o) from World.rangeAt_alloc (range_at (by simp) _ 86) _)
  have Ht2 := Lib.hid (show ((((w.alloc (.cells (mgL m).toArray 86)).alloc (.cells (mgL o).toArray 86)).alloc (.cells (mgL 0).toArray 86))).there (w.heap.size + 2) 0 30 from there_at (by simp) _ 86 (by rw [mgL_len]))
  have Hb := Lib.hid (show Below w.heap.size w ((((w.alloc (.cells (mgL m).toArray 86)).alloc (.cells (mgL o).toArray 86)).alloc (.cells (mgL 0).toArray 86))) from (((Below.refl w.heap.size w).alloc (Nat.le_refl _) _).alloc (by simp) _).alloc (by simp; omega) _)
  have ho2 : o < bb ^ 2 := Nat.lt_of_lt_of_le (show o < bb ^ 1 by rw [Nat.pow_one]; exact ho) (pow_mono (by omega))
  have hr2 : m % o < bb ^ 2 := Nat.lt_trans (Nat.mod_lt _ h0) ho2
  have Cw1 := Lib.hid (fun w => word_any o ho2 w)
  have Cw2 := Lib.hid (fun w => word_any (m % o) hr2 w)
  have cg := fun w => gcdWords_any o (m % o) ho2 hr2 w
  rw [show Nat.gcd o (m % o) = Nat.gcd m o by rw [Nat.gcd_comm o, ← Nat.gcd_rec, Nat.gcd_comm]] at cg
  have Cg := Lib.hid cg
  have Cf := Lib.hid (fun w => fromWord_any (Nat.gcd m o) (Nat.lt_of_le_of_lt (Nat.gcd_le_right _ h0) ho2) w)
  clear cs cz hs1 cg ho2 hr2
  go_enter Tryz.func96, Tryz.ntmps96
  go_wp2_with (first
    | ((with_reducible refine al_zb 86 _ (w.heap.size + 2) ?_ ?_ z86 ?_); (· exact ⟨rfl, rfl⟩); · (simp; done)))
  try simp only [Act.put, List.setIfInBounds_toArray, List.set_cons_zero, List.set_cons_succ]
  go_loopw [9] (fun _ wr => wr = (((w.alloc (.cells (mgL m).toArray 86)).alloc (.cells (mgL o).toArray 86)).alloc (.cells (mgL 0).toArray 86))) (fun _ _ => 0)
  case atStart => exact rfl
  case round =>
    obtain rfl := hrel
    go_wp2_with (first
      | ((with_reducible refine ld86 (w.heap.size + 1) 0 o ?_ ?_ ?_); (· exact ⟨rfl, _, rfl, rfl⟩); · first | exact Hr1.out | exact range_keep Hr1.out HB2.out | exact range_keep Hr1.out HB1.out)
      | ((with_reducible refine ld86 w.heap.size 0 m ?_ ?_ ?_); (· exact ⟨rfl, _, rfl, rfl⟩); · exact range_keep Hr0.out HB2.out)
      | (go_at_call 159; (with_reducible refine (Cs.out _).mono ?_); rintro e w1 ⟨rfl, hb1⟩; have HB1 := Lib.hid hb1; clear hb1)
      | (go_at_call 86; (with_reducible refine (Cz.out _).mono ?_); rintro e w2 ⟨rfl, hb2⟩; have HB2 := Lib.hid (HB1.out.trans (hb2.mono HB1.out.size)); clear hb2)
      | (go_at_call 154; (with_reducible refine (Cd.out _).mono ?_); rintro e w3 ⟨rfl, hb3⟩; have HB3 := Lib.hid (HB2.out.trans (hb3.mono HB2.out.size)); clear hb3)
      | ((with_reducible refine al_zb 86 _ w3.heap.size ?_ ?_ z86 ?_); (· exact ⟨rfl, rfl⟩); · rfl)
      | ((with_reducible refine al_zb 86 _ (w3.heap.size + 1) ?_ ?_ z86 ?_); (· exact ⟨rfl, rfl⟩); · (simp; done))
      | ((with_reducible refine st86 w3.heap.size 0 (m / o) ?_ ?_ ?_); (· exact ⟨rfl, _, _, rfl, rfl, rfl⟩); · exact gd_there0 w3)
      | ((with_reducible refine st86 (w3.heap.size + 1) 0 (m % o) ?_ ?_ ?_); (· exact ⟨rfl, _, _, rfl, rfl, rfl⟩); · exact World.there_setCells (gd_there1 w3) _ _ _))

    have hw3 := HB3.out.size
    have Hsz := Lib.hid (show w.heap.size + 3 ≤ w3.heap.size by simp at hw3; omega)
    have hsz := Hsz.out
    have q3 := Hb.out.trans (HB3.out.mono Hb.out.size)
    have HBx := Lib.hid (below_set (below_set ((q3.alloc (by omega) (.cells (mgL 0).toArray 86)).alloc (by simp; omega) (.cells (mgL 0).toArray 86)) (show w.heap.size ≤ w3.heap.size by omega) 0 (mgL (m / o))) (show w.heap.size ≤ w3.heap.size + 1 by omega) 0 (mgL (m % o)))
    have HRo := Lib.hid (range_setk (b2 := w3.heap.size + 1) (o2 := 0) (vs := mgL (m % o)) (range_setk (b2 := w3.heap.size) (o2 := 0) (vs := mgL (m / o)) (World.rangeAt_alloc (World.rangeAt_alloc (range_keep Hr1.out HB3.out) (.cells (mgL 0).toArray 86)) (.cells (mgL 0).toArray 86)) (by omega)) (by omega))
    have HRr := Lib.hid (range_set (cs := mgL (m % o)) (World.there_setCells (gd_there1 w3) w3.heap.size 0 (mgL (m / o))) (by rw [mgL_len]))
    have HT2 := Lib.hid (World.there_setCells (World.there_setCells (World.there_alloc (World.there_alloc (there_keep Ht2.out HB3.out) (.cells (mgL 0).toArray 86)) (.cells (mgL 0).toArray 86)) w3.heap.size 0 (mgL (m / o))) (w3.heap.size + 1) 0 (mgL (m % o)))
    clear hw3 q3
    refine wp_region_held_drew (S := (fun w' => Below w.heap.size w w' ∧ w'.rangeAt (w.heap.size + 1) 0 (mgL o) ∧ w'.rangeAt (w3.heap.size + 1) 0 (mgL (m % o)) ∧ w'.there (w.heap.size + 2) 0 30)) (by kernel_rfl) ?_ (fun hH => ?_)
    · exact ⟨HBx.out.drew, HRo.out, HRr.out, HT2.out⟩
    try dsimp only at hH
    refine wpAnyH_take (i := 0) (v := (.agg (mgL o).toArray)) rfl (by kernel_rfl) (by kernel_rfl) (by kernel_rfl) (fun _ _ _ h => h) (yld86 (w.heap.size + 1) 0 o rfl ⟨_, rfl, rfl⟩ (fun wz hz => hz.2.1)) hH ?_
    try simp only [Act.put, List.getElem_toArray, List.getElem_cons_zero, List.setIfInBounds_toArray, List.set_cons_zero, List.set_cons_succ]
    refine wpAnyH_take (i := 2) (v := (.agg (mgL (m % o)).toArray)) rfl (by kernel_rfl) (by kernel_rfl) (by kernel_rfl) (fun _ _ _ h => h) (yld86 (w3.heap.size + 1) 0 (m % o) rfl ⟨_, rfl, rfl⟩ (fun wz hz => hz.2.2.1)) hH ?_
    try simp only [Act.put, List.getElem_toArray, List.getElem_cons_succ, List.getElem_cons_zero, List.setIfInBounds_toArray, List.set_cons_zero, List.set_cons_succ]
    refine wpAnyH_ready (rs := [1]) (by kernel_rfl) (by simp) ?_
    refine AllReadyH.cons rfl (fun K hK => ?_) AllReadyH.nil
    simp only [List.getElem_toArray, List.getElem_cons_succ, List.getElem_cons_zero]
    rw [if_pos (by rfl)]
    go_simp
    refine (Cw1.out _).mono ?_; rintro e w1 ⟨rfl, hb1⟩
    try simp only []
    refine hK.out _ _ ?_ (fun hH1 => ?_)
    · exact ⟨(hH.1).trans (hb1.mono (hH.1).size), range_keep hH.2.1 hb1, range_keep hH.2.2.1 hb1, there_keep hH.2.2.2 hb1⟩
    clear hK K
    try simp only [Act.put, List.getElem_toArray, List.getElem_cons_succ, List.getElem_cons_zero, List.setIfInBounds_toArray, List.set_cons_zero, List.set_cons_succ]
    refine wpAnyH_ready (rs := [3]) (by kernel_rfl) (by simp) ?_
    refine AllReadyH.cons rfl (fun K hK => ?_) AllReadyH.nil
    simp only [List.getElem_toArray, List.getElem_cons_succ, List.getElem_cons_zero]
    rw [if_pos (by rfl)]
    go_simp
    refine (Cw2.out _).mono ?_; rintro e w2 ⟨rfl, hb2⟩
    try simp only []
    refine hK.out _ _ ?_ (fun hH2 => ?_)
    · exact ⟨(hH1.1).trans (hb2.mono (hH1.1).size), range_keep hH1.2.1 hb2, range_keep hH1.2.2.1 hb2, there_keep hH1.2.2.2 hb2⟩
    clear hK K
    try simp only [Act.put, List.getElem_toArray, List.getElem_cons_succ, List.getElem_cons_zero, List.setIfInBounds_toArray, List.set_cons_zero, List.set_cons_succ]
    refine wpAnyH_ready (rs := [4]) (by kernel_rfl) (by simp) ?_
    refine AllReadyH.cons rfl (fun K hK => ?_) AllReadyH.nil
    simp only [List.getElem_toArray, List.getElem_cons_succ, List.getElem_cons_zero]
    rw [if_pos (by rfl)]
    go_simp
    refine (Cg.out _).mono ?_; rintro e w3 ⟨rfl, hb3⟩
    try simp only []
    refine hK.out _ _ ?_ (fun hH3 => ?_)
    · exact ⟨(hH2.1).trans (hb3.mono (hH2.1).size), range_keep hH2.2.1 hb3, range_keep hH2.2.2.1 hb3, there_keep hH2.2.2.2 hb3⟩
    clear hK K
    try simp only [Act.put, List.getElem_toArray, List.getElem_cons_succ, List.getElem_cons_zero, List.setIfInBounds_toArray, List.set_cons_zero, List.set_cons_succ]
    refine wpAnyH_ready (rs := [5]) (by kernel_rfl) (by simp) ?_
    refine AllReadyH.cons rfl (fun K hK => ?_) AllReadyH.nil
    simp only [List.getElem_toArray, List.getElem_cons_succ, List.getElem_cons_zero]
    rw [if_pos (by rfl)]
    go_simp
    refine (Cf.out _).mono ?_; rintro e w4 ⟨rfl, hb4⟩
    try simp only []
    refine hK.out _ _ ?_ (fun hH4 => ?_)
    · exact ⟨(hH3.1).trans (hb4.mono (hH3.1).size), range_keep hH3.2.1 hb4, range_keep hH3.2.2.1 hb4, there_keep hH3.2.2.2 hb4⟩
    clear hK K
    try simp only [Act.put, List.getElem_toArray, List.getElem_cons_succ, List.getElem_cons_zero, List.setIfInBounds_toArray, List.set_cons_zero, List.set_cons_succ]
    refine wpAnyH_ready (rs := [6]) (by kernel_rfl) (by simp) ?_
    refine AllReadyH.cons rfl (fun K hK => ?_) AllReadyH.nil
    simp only [List.getElem_toArray, List.getElem_cons_succ, List.getElem_cons_zero]
    rw [if_pos (by rfl)]
    with_reducible refine wst86 (w.heap.size + 2) 0 (Nat.gcd m o) ?_ hH4.2.2.2 ?_
    · exact ⟨_, _, rfl, rfl, rfl⟩
    refine hK.out _ _ ?_ (fun hH5 => ?_)
    · exact ⟨below_set hH4.1 (by omega) _ _, range_setk hH4.2.1 (by first | trivial | omega), range_setk hH4.2.2.1 (by first | trivial | omega), there_setk hH4.2.2.2 (by first | trivial | omega)⟩
    clear hK K
    try simp only [Act.put]
    refine wpAnyH_done (by kernel_rfl) ?_ _
    go_wp2
    exact ret86 Tryz.results96 (w.heap.size + 2) 0 rfl (Nat.gcd m o) (range_set hH4.2.2.2 (by rw [mgL_len])) rfl ⟨rfl, hH5.1⟩
end Go.Proofs.YtpbegoflpfdajaaGreatDoor

namespace Go.Proofs.YtpbegoflpfdajaaGreatDoor
open Go.RowKit

set_option maxHeartbeats 1000000 in
theorem divide_big (m o : Nat) (hm : m < bb ^ 29) (ho : o < bb ^ 30) (h2 : 2 ≤ lsz o) (hge : o ≤ m) (w : World) :
    Calls Tryz.prog 154 #[.agg (mgL m).toArray, .agg (mgL o).toArray] w fun e w' => e = .returned (.tuple #[.agg (mgL (m / o)).toArray, .agg (mgL (m % o)).toArray]) ∧ Below w.heap.size w w' := by
  have hm30 : m < bb ^ 30 := Nat.lt_of_lt_of_le hm (pow_mono (by omega))
  have hc := fun w => compare_any m o hm30 ho w
  obtain ⟨x, hx⟩ : ∃ x, cmpN m o = x := ⟨_, rfl⟩
  rw [hx] at hc
  have t1 : decide (x < 0) = false := by simpa [cmp_neg hx] using hge
  have cs := fun w => size_any o ho w
  have t2 : ((lsz o : Int) == 1) = false := by simp; omega
  obtain ⟨s, hs⟩ : ∃ s, lsz o = s := ⟨_, rfl⟩
  have Cd := Lib.hid (fun w => divLong_any m o hm ho h2 hge w)
  rw [hs] at cs t2
  have Cs := Lib.hid cs
  have Hc := Lib.hid hc
  have Hr0 := Lib.hid (show (((((w.alloc (.cells (mgL m).toArray 86)).alloc (.cells (mgL o).toArray 86)).alloc (.cells (mgL 0).toArray 86)).alloc (.cells (mgL 0).toArray 86))).rangeAt w.heap.size 0 (mgL m) from World.rangeAt_alloc (World.rangeAt_alloc (World.rangeAt_alloc (range_new w _ 86) _) _) _)
  have Hr1 := Lib.hid (show (((((w.alloc (.cells (mgL m).toArray 86)).alloc (.cells (mgL o).toArray 86)).alloc (.cells (mgL 0).toArray 86)).alloc (.cells (mgL 0).toArray 86))).rangeAt (w.heap.size + 1) 0 (mgL o) from World.rangeAt_alloc (World.rangeAt_alloc (range_at (by simp) _ 86) _) _)
  have Ht2 := Lib.hid (show (((((w.alloc (.cells (mgL m).toArray 86)).alloc (.cells (mgL o).toArray 86)).alloc (.cells (mgL 0).toArray 86)).alloc (.cells (mgL 0).toArray 86))).there (w.heap.size + 2) 0 30 from World.there_alloc (there_at (by simp) _ 86 (by rw [mgL_len])) _)
  have Ht3 := Lib.hid (show (((((w.alloc (.cells (mgL m).toArray 86)).alloc (.cells (mgL o).toArray 86)).alloc (.cells (mgL 0).toArray 86)).alloc (.cells (mgL 0).toArray 86))).there (w.heap.size + 3) 0 30 from there_at (by simp) _ 86 (by rw [mgL_len]))
  have Hb := Lib.hid (show Below w.heap.size w (((((w.alloc (.cells (mgL m).toArray 86)).alloc (.cells (mgL o).toArray 86)).alloc (.cells (mgL 0).toArray 86)).alloc (.cells (mgL 0).toArray 86))) from ((((Below.refl w.heap.size w).alloc (Nat.le_refl _) _).alloc (by simp) _).alloc (by simp; omega) _).alloc (by simp; omega) _)
  clear hc hx hm ho hge hm30 cs hs h2
  obtain ⟨q, hq⟩ : ∃ q, m / o = q := ⟨_, rfl⟩
  obtain ⟨r, hr⟩ : ∃ r, m % o = r := ⟨_, rfl⟩
  rw [hq, hr] at Cd ⊢
  clear hq hr
  go_enter Tryz.func154, Tryz.ntmps154
  go_wp2_with (first
    | ((with_reducible refine al_zb 86 _ (w.heap.size + 2) ?_ ?_ z86 ?_); (· exact ⟨rfl, rfl⟩); · (simp; done))
    | ((with_reducible refine al_zb 86 _ (w.heap.size + 3) ?_ ?_ z86 ?_); (· exact ⟨rfl, rfl⟩); · (simp; done))
    | ((with_reducible refine ld86 w.heap.size 0 m ?_ ?_ ?_); (· exact ⟨rfl, _, rfl, rfl⟩); · first | exact Hr0.out | exact range_keep Hr0.out HB2.out | exact range_keep Hr0.out HB1.out)
    | ((with_reducible refine ld86 (w.heap.size + 1) 0 o ?_ ?_ ?_); (· exact ⟨rfl, _, rfl, rfl⟩); · first | exact Hr1.out | exact range_keep Hr1.out HB2.out | exact range_keep Hr1.out HB1.out)
    | (go_at_call 146; (with_reducible refine (Hc.out _).mono ?_); rintro e w1 ⟨rfl, hb1⟩; have HB1 := Lib.hid hb1; clear hb1)
    | (go_at_call 159; (with_reducible refine (Cs.out _).mono ?_); rintro e w2 ⟨rfl, hb2⟩; have HB2 := Lib.hid (HB1.out.trans (hb2.mono HB1.out.size)); clear hb2)
    | (go_at_call 197; (with_reducible refine (Cd.out _).mono ?_); rintro e w3 ⟨rfl, hb3⟩; have HB3 := Lib.hid (HB2.out.trans (hb3.mono HB2.out.size)); clear hb3)
    | ((with_reducible refine st86 (w.heap.size + 2) 0 q ?_ ?_ ?_); (· exact ⟨rfl, _, _, rfl, rfl, rfl⟩); · exact there_keep Ht2.out HB3.out)
    | ((with_reducible refine st86 (w.heap.size + 3) 0 r ?_ ?_ ?_); (· exact ⟨rfl, _, _, rfl, rfl, rfl⟩); · exact World.there_setCells (there_keep Ht3.out HB3.out) _ _ _))

  refine ret_cell_cell Tryz.results154 (w.heap.size + 2) 0 (w.heap.size + 3) 0 rfl rfl q r (range_setk (range_set (there_keep Ht2.out HB3.out) (by rw [mgL_len])) (by omega)) (range_set (World.there_setCells (there_keep Ht3.out HB3.out) _ _ _) (by rw [mgL_len])) rfl ⟨rfl, ?_⟩
  exact below_set (below_set (Hb.out.trans (HB3.out.mono Hb.out.size)) (by omega) _ _) (by omega) _ _
/-- divide -/
theorem divide_all (m o : Nat) (hm : m < bb ^ 29) (ho : o < bb ^ 30) (h0 : 0 < o) (w : World) :
    Calls Tryz.prog 154 #[.agg (mgL m).toArray, .agg (mgL o).toArray] w fun e w' => e = .returned (.tuple #[.agg (mgL (m / o)).toArray, .agg (mgL (m % o)).toArray]) ∧ Below w.heap.size w w' := by
  have hm30 : m < bb ^ 30 := Nat.lt_of_lt_of_le hm (pow_mono (by omega))
  by_cases h1 : o < bb
  · exact divide_any m o hm30 h1 h0 w
  · by_cases h : m < o
    · rw [Nat.div_eq_of_lt h, Nat.mod_eq_of_lt h]
      exact divide_lt m o hm30 ho h w
    · refine divide_big m o hm ho ?_ (by omega) w
      apply Nat.lt_of_not_le; intro hle
      have := (lsz_le_iff 1 o).1 hle
      rw [Nat.pow_one] at this; omega
end Go.Proofs.YtpbegoflpfdajaaGreatDoor

/- WHAT IS PROVED: contracts of functions of the numbers package and laws for them, used by the last text of this claim. CONDITIONS: stated at each theorem. -/
import Derived.Test.YtpbegoflpfdajaaGreatDoorN08
namespace Go.Proofs.YtpbegoflpfdajaaGreatDoor
open Go.RowKit

theorem bool_cells {n1 n2 : Nat} {s1 s2 : Bool} (_w : World) : (sgL n1 s1)[30]? = some (.bool s1) ∧ (sgL n2 s2)[30]? = some (.bool s2) := ⟨sgL_get, sgL_get⟩

set_option maxHeartbeats 2000000 in
theorem plusS_same (n1 n2 : Nat) (s1 s2 : Bool) (hs : s1 = s2) (h1 : n1 + n2 < bb ^ 30) (w : World) :
    Calls Tryz.prog 78 #[.agg (sgL n1 s1).toArray, .agg (sgL n2 s2).toArray] w fun e w' => e = .returned (.agg (sgL (n1 + n2) (s1 && !decide (n1 + n2 = 0))).toArray) ∧ Below w.heap.size w w' := by
  have hs' : (s1 == s2) = true := by simpa using hs
  have H1 := Lib.hid h1; clear h1 hs
  have c1 : (sgL n1 s1)[30]? = some (.bool s1) := sgL_get
  have c2 : (sgL n2 s2)[30]? = some (.bool s2) := sgL_get
  have Hb := Lib.hid (show Below w.heap.size w (((w.alloc (.cells (sgL n1 s1).toArray 88)).alloc (.cells (sgL n2 s2).toArray 88)).alloc (.cells (sgL 0 false).toArray 88)) from (((Below.refl w.heap.size w).alloc (Nat.le_refl _) _).alloc (by simp) _).alloc (by simp; omega) _)
  have Hr1 := Lib.hid (show (((w.alloc (.cells (sgL n1 s1).toArray 88)).alloc (.cells (sgL n2 s2).toArray 88)).alloc (.cells (sgL 0 false).toArray 88)).rangeAt w.heap.size 0 (sgL n1 s1) from World.rangeAt_alloc (World.rangeAt_alloc (range_new w _ 88) _) _)
  have Hr2 := Lib.hid (show (((w.alloc (.cells (sgL n1 s1).toArray 88)).alloc (.cells (sgL n2 s2).toArray 88)).alloc (.cells (sgL 0 false).toArray 88)).rangeAt (w.heap.size + 1) 0 (sgL n2 s2) from World.rangeAt_alloc (range_at (by simp) _ 88) _)
  have Ht := Lib.hid (show (((w.alloc (.cells (sgL n1 s1).toArray 88)).alloc (.cells (sgL n2 s2).toArray 88)).alloc (.cells (sgL 0 false).toArray 88)).there (w.heap.size + 2) 0 31 from there_at (by simp) _ 88 (by rw [sgL_len]))
  go_enter Tryz.func78, Tryz.ntmps78
  go_wp2_with (first
    | ((with_reducible refine al_zb 88 _ (w.heap.size + 2) ?_ ?_ z88 ?_); (· exact ⟨rfl, rfl⟩); · (simp; done)))
  refine wp_region_held_drew (S := (fun w' => Below w.heap.size w w' ∧ w'.rangeAt w.heap.size 0 (sgL n1 s1) ∧ w'.rangeAt (w.heap.size + 1) 0 (sgL n2 s2) ∧ w'.there (w.heap.size + 2) 0 31)) (by kernel_rfl) ?_ (fun hH => ?_)
  · exact ⟨Hb.out.drew, Hr1.out, Hr2.out, Ht.out⟩
  try dsimp only at hH
  refine wpAnyH_take (i := 0) (v := (.pointer (some ⟨w.heap.size, 0, none⟩))) rfl (by kernel_rfl) (by kernel_rfl) (by kernel_rfl) (fun _ _ _ h => h) (Or.inl ⟨by rfl, fun wz hz => by skip; go_simp⟩) hH ?_
  try simp only [Act.put, List.getElem_toArray, List.getElem_cons_zero, List.setIfInBounds_toArray, List.set_cons_zero, List.set_cons_succ]
  refine wpAnyH_take (i := 1) (v := (.agg (mgL n1).toArray)) rfl (by kernel_rfl) (by kernel_rfl) (by kernel_rfl) (fun _ _ _ h => h) (yld86 w.heap.size 0 n1 rfl ⟨_, rfl, rfl⟩ (fun wz hz => (range_sg hz.2.1).1)) hH ?_
  try simp only [Act.put, List.getElem_toArray, List.getElem_cons_succ, List.getElem_cons_zero, List.setIfInBounds_toArray, List.set_cons_zero, List.set_cons_succ]
  refine wpAnyH_take (i := 2) (v := (.pointer (some ⟨(w.heap.size + 1), 0, none⟩))) rfl (by kernel_rfl) (by kernel_rfl) (by kernel_rfl) (fun _ _ _ h => h) (Or.inl ⟨by rfl, fun wz hz => by skip; go_simp⟩) hH ?_
  try simp only [Act.put, List.getElem_toArray, List.getElem_cons_succ, List.getElem_cons_zero, List.setIfInBounds_toArray, List.set_cons_zero, List.set_cons_succ]
  refine wpAnyH_take (i := 3) (v := (.agg (mgL n2).toArray)) rfl (by kernel_rfl) (by kernel_rfl) (by kernel_rfl) (fun _ _ _ h => h) (yld86 (w.heap.size + 1) 0 n2 rfl ⟨_, rfl, rfl⟩ (fun wz hz => (range_sg hz.2.2.1).1)) hH ?_
  try simp only [Act.put, List.getElem_toArray, List.getElem_cons_succ, List.getElem_cons_zero, List.setIfInBounds_toArray, List.set_cons_zero, List.set_cons_succ]
  refine wpAnyH_take (i := 5) (v := (.pointer (some ⟨w.heap.size, 30, none⟩))) rfl (by kernel_rfl) (by kernel_rfl) (by kernel_rfl) (fun _ _ _ h => h) (Or.inl ⟨by rfl, fun wz hz => by skip; go_simp⟩) hH ?_
  try simp only [Act.put, List.getElem_toArray, List.getElem_cons_succ, List.getElem_cons_zero, List.setIfInBounds_toArray, List.set_cons_zero, List.set_cons_succ]
  refine wpAnyH_take (i := 6) (v := (.bool s1)) rfl (by kernel_rfl) (by kernel_rfl) (by kernel_rfl) (fun _ _ _ h => h) (Or.inl ⟨by rfl, fun wz hz => by have hc := cell_sg hz.2.1; go_simp⟩) hH ?_
  try simp only [Act.put, List.getElem_toArray, List.getElem_cons_succ, List.getElem_cons_zero, List.setIfInBounds_toArray, List.set_cons_zero, List.set_cons_succ]
  refine wpAnyH_ready (rs := [4]) (by kernel_rfl) (by simp) ?_
  refine AllReadyH.cons rfl (fun K hK => ?_) AllReadyH.nil
  simp only [List.getElem_toArray, List.getElem_cons_succ, List.getElem_cons_zero]
  rw [if_pos (by rfl)]
  go_simp
  refine (plus_any n1 n2 H1.out _).mono ?_; rintro e w1 ⟨rfl, hb1⟩
  try simp only []
  refine hK.out _ _ ?_ (fun hH1 => ?_)
  · exact ⟨(hH.1).trans (hb1.mono (hH.1).size), range_keep hH.2.1 hb1, range_keep hH.2.2.1 hb1, there_keep hH.2.2.2 hb1⟩
  clear hK K
  try simp only [Act.put, List.getElem_toArray, List.getElem_cons_succ, List.getElem_cons_zero, List.setIfInBounds_toArray, List.set_cons_zero, List.set_cons_succ]
  refine wpAnyH_ready (rs := [7]) (by kernel_rfl) (by simp) ?_
  refine AllReadyH.cons rfl (fun K hK => ?_) AllReadyH.nil
  simp only [List.getElem_toArray, List.getElem_cons_succ, List.getElem_cons_zero]
  rw [if_pos (by rfl)]
  go_simp
  refine (number_any (n1 + n2) s1 H1.out _).mono ?_; rintro e w2 ⟨rfl, hb2⟩
  try simp only []
  refine hK.out _ _ ?_ (fun hH2 => ?_)
  · exact ⟨(hH1.1).trans (hb2.mono (hH1.1).size), range_keep hH1.2.1 hb2, range_keep hH1.2.2.1 hb2, there_keep hH1.2.2.2 hb2⟩
  clear hK K
  try simp only [Act.put, List.getElem_toArray, List.getElem_cons_succ, List.getElem_cons_zero, List.setIfInBounds_toArray, List.set_cons_zero, List.set_cons_succ]
  refine wpAnyH_ready (rs := [8]) (by kernel_rfl) (by simp) ?_
  refine AllReadyH.cons rfl (fun K hK => ?_) AllReadyH.nil
  simp only [List.getElem_toArray, List.getElem_cons_succ, List.getElem_cons_zero]
  rw [if_pos (by rfl)]
  with_reducible refine wst88 (w.heap.size + 2) 0 (n1 + n2) (s1 && !decide (n1 + n2 = 0)) ?_ hH2.2.2.2 ?_
  · exact ⟨_, _, rfl, rfl, rfl⟩
  refine hK.out _ _ ?_ (fun hH3 => ?_)
  · exact ⟨below_set hH2.1 (by omega) _ _, range_setk hH2.2.1 (by first | trivial | omega), range_setk hH2.2.2.1 (by first | trivial | omega), there_setk hH2.2.2.2 (by first | trivial | omega)⟩
  clear hK K
  try simp only [Act.put]
  refine wpAnyH_done (by kernel_rfl) ?_ _
  go_wp2
  refine ret88 Tryz.results78 (w.heap.size + 2) 0 rfl (n1 + n2) (s1 && !decide (n1 + n2 = 0)) (range_set hH2.2.2.2 (by rw [sgL_len])) rfl ⟨rfl, hH3.1⟩

set_option maxHeartbeats 4000000 in
theorem plusS_ge (n1 n2 : Nat) (s1 s2 : Bool) (hs : s1 ≠ s2) (hc : n2 ≤ n1) (h1 : n1 < bb ^ 30) (h2 : n2 < bb ^ 30) (w : World) :
    Calls Tryz.prog 78 #[.agg (sgL n1 s1).toArray, .agg (sgL n2 s2).toArray] w fun e w' => e = .returned (.agg (sgL (max n1 n2 - min n1 n2) (s1 && !decide (max n1 n2 - min n1 n2 = 0))).toArray) ∧ Below w.heap.size w w' := by
  have hs' : (s1 == s2) = false := by simpa using hs
  have H1 := Lib.hid h1; have H2 := Lib.hid h2
  have H3 := Lib.hid (show max n1 n2 - min n1 n2 < bb ^ 30 by omega)
  have Hmx := Lib.hid (show max n2 n1 - min n2 n1 = max n1 n2 - min n1 n2 by omega)
  have hC := fun w => compare_any n1 n2 h1 h2 w
  obtain ⟨x, hx⟩ : ∃ x, cmpN n1 n2 = x := ⟨_, rfl⟩
  rw [hx] at hC
  have t1 : decide (x < 0) = false := by simpa [cmp_neg hx] using hc
  have HC := Lib.hid hC
  clear h1 h2 hs hx hC hc
  have c1 : (sgL n1 s1)[30]? = some (.bool s1) := sgL_get
  have c2 : (sgL n2 s2)[30]? = some (.bool s2) := sgL_get
  have Hb := Lib.hid (show Below w.heap.size w (((w.alloc (.cells (sgL n1 s1).toArray 88)).alloc (.cells (sgL n2 s2).toArray 88)).alloc (.cells (sgL 0 false).toArray 88)) from (((Below.refl w.heap.size w).alloc (Nat.le_refl _) _).alloc (by simp) _).alloc (by simp; omega) _)
  have Hr1 := Lib.hid (show (((w.alloc (.cells (sgL n1 s1).toArray 88)).alloc (.cells (sgL n2 s2).toArray 88)).alloc (.cells (sgL 0 false).toArray 88)).rangeAt w.heap.size 0 (sgL n1 s1) from World.rangeAt_alloc (World.rangeAt_alloc (range_new w _ 88) _) _)
  have Hr2 := Lib.hid (show (((w.alloc (.cells (sgL n1 s1).toArray 88)).alloc (.cells (sgL n2 s2).toArray 88)).alloc (.cells (sgL 0 false).toArray 88)).rangeAt (w.heap.size + 1) 0 (sgL n2 s2) from World.rangeAt_alloc (range_at (by simp) _ 88) _)
  have Ht := Lib.hid (show (((w.alloc (.cells (sgL n1 s1).toArray 88)).alloc (.cells (sgL n2 s2).toArray 88)).alloc (.cells (sgL 0 false).toArray 88)).there (w.heap.size + 2) 0 31 from there_at (by simp) _ 88 (by rw [sgL_len]))
  go_enter Tryz.func78, Tryz.ntmps78
  go_wp2_with (first
    | ((with_reducible refine al_zb 88 _ (w.heap.size + 2) ?_ ?_ z88 ?_); (· exact ⟨rfl, rfl⟩); · (simp; done))
    | ((with_reducible refine ld86 w.heap.size 0 n1 ?_ ?_ ?_); (· exact ⟨rfl, _, rfl, rfl⟩); · exact (range_sg Hr1.out).1)
    | ((with_reducible refine ld86 (w.heap.size + 1) 0 n2 ?_ ?_ ?_); (· exact ⟨rfl, _, rfl, rfl⟩); · exact (range_sg Hr2.out).1)
    | (go_at_call 146; (with_reducible refine (HC.out _).mono ?_); rintro e w1 ⟨rfl, hb1⟩; have HB1 := Lib.hid hb1; clear hb1))
  refine wp_region_held_drew (S := (fun w' => Below w.heap.size w w' ∧ w'.rangeAt w.heap.size 0 (sgL n1 s1) ∧ w'.rangeAt (w.heap.size + 1) 0 (sgL n2 s2) ∧ w'.there (w.heap.size + 2) 0 31)) (by kernel_rfl) ?_ (fun hH => ?_)
  · exact ⟨(Hb.out.trans (HB1.out.mono Hb.out.size)).drew, range_keep Hr1.out HB1.out.drew, range_keep Hr2.out HB1.out.drew, there_keep Ht.out HB1.out.drew⟩
  try dsimp only at hH
  refine wpAnyH_take (i := 0) (v := (.pointer (some ⟨w.heap.size, 0, none⟩))) rfl (by kernel_rfl) (by kernel_rfl) (by kernel_rfl) (fun _ _ _ h => h) (Or.inl ⟨by rfl, fun wz hz => by skip; go_simp⟩) hH ?_
  try simp only [Act.put, List.getElem_toArray, List.getElem_cons_zero, List.setIfInBounds_toArray, List.set_cons_zero, List.set_cons_succ]
  refine wpAnyH_take (i := 1) (v := (.agg (mgL n1).toArray)) rfl (by kernel_rfl) (by kernel_rfl) (by kernel_rfl) (fun _ _ _ h => h) (yld86 w.heap.size 0 n1 rfl ⟨_, rfl, rfl⟩ (fun wz hz => (range_sg hz.2.1).1)) hH ?_
  try simp only [Act.put, List.getElem_toArray, List.getElem_cons_succ, List.getElem_cons_zero, List.setIfInBounds_toArray, List.set_cons_zero, List.set_cons_succ]
  refine wpAnyH_take (i := 2) (v := (.pointer (some ⟨(w.heap.size + 1), 0, none⟩))) rfl (by kernel_rfl) (by kernel_rfl) (by kernel_rfl) (fun _ _ _ h => h) (Or.inl ⟨by rfl, fun wz hz => by skip; go_simp⟩) hH ?_
  try simp only [Act.put, List.getElem_toArray, List.getElem_cons_succ, List.getElem_cons_zero, List.setIfInBounds_toArray, List.set_cons_zero, List.set_cons_succ]
  refine wpAnyH_take (i := 3) (v := (.agg (mgL n2).toArray)) rfl (by kernel_rfl) (by kernel_rfl) (by kernel_rfl) (fun _ _ _ h => h) (yld86 (w.heap.size + 1) 0 n2 rfl ⟨_, rfl, rfl⟩ (fun wz hz => (range_sg hz.2.2.1).1)) hH ?_
  try simp only [Act.put, List.getElem_toArray, List.getElem_cons_succ, List.getElem_cons_zero, List.setIfInBounds_toArray, List.set_cons_zero, List.set_cons_succ]
  refine wpAnyH_take (i := 5) (v := (.pointer (some ⟨w.heap.size, 30, none⟩))) rfl (by kernel_rfl) (by kernel_rfl) (by kernel_rfl) (fun _ _ _ h => h) (Or.inl ⟨by rfl, fun wz hz => by skip; go_simp⟩) hH ?_
  try simp only [Act.put, List.getElem_toArray, List.getElem_cons_succ, List.getElem_cons_zero, List.setIfInBounds_toArray, List.set_cons_zero, List.set_cons_succ]
  refine wpAnyH_take (i := 6) (v := (.bool s1)) rfl (by kernel_rfl) (by kernel_rfl) (by kernel_rfl) (fun _ _ _ h => h) (Or.inl ⟨by rfl, fun wz hz => by have hc := cell_sg hz.2.1; go_simp⟩) hH ?_
  try simp only [Act.put, List.getElem_toArray, List.getElem_cons_succ, List.getElem_cons_zero, List.setIfInBounds_toArray, List.set_cons_zero, List.set_cons_succ]
  refine wpAnyH_ready (rs := [4]) (by kernel_rfl) (by simp) ?_
  refine AllReadyH.cons rfl (fun K hK => ?_) AllReadyH.nil
  simp only [List.getElem_toArray, List.getElem_cons_succ, List.getElem_cons_zero]
  rw [if_pos (by rfl)]
  go_simp
  refine (distance_any n1 n2 H1.out H2.out _).mono ?_; rintro e w1 ⟨rfl, hb1⟩
  try simp only []
  refine hK.out _ _ ?_ (fun hH1 => ?_)
  · exact ⟨(hH.1).trans (hb1.mono (hH.1).size), range_keep hH.2.1 hb1, range_keep hH.2.2.1 hb1, there_keep hH.2.2.2 hb1⟩
  clear hK K
  try simp only [Act.put, List.getElem_toArray, List.getElem_cons_succ, List.getElem_cons_zero, List.setIfInBounds_toArray, List.set_cons_zero, List.set_cons_succ]
  refine wpAnyH_ready (rs := [7]) (by kernel_rfl) (by simp) ?_
  refine AllReadyH.cons rfl (fun K hK => ?_) AllReadyH.nil
  simp only [List.getElem_toArray, List.getElem_cons_succ, List.getElem_cons_zero]
  rw [if_pos (by rfl)]
  go_simp
  refine (number_any (max n1 n2 - min n1 n2) s1 H3.out _).mono ?_; rintro e w2 ⟨rfl, hb2⟩
  try simp only []
  refine hK.out _ _ ?_ (fun hH2 => ?_)
  · exact ⟨(hH1.1).trans (hb2.mono (hH1.1).size), range_keep hH1.2.1 hb2, range_keep hH1.2.2.1 hb2, there_keep hH1.2.2.2 hb2⟩
  clear hK K
  try simp only [Act.put, List.getElem_toArray, List.getElem_cons_succ, List.getElem_cons_zero, List.setIfInBounds_toArray, List.set_cons_zero, List.set_cons_succ]
  refine wpAnyH_ready (rs := [8]) (by kernel_rfl) (by simp) ?_
  refine AllReadyH.cons rfl (fun K hK => ?_) AllReadyH.nil
  simp only [List.getElem_toArray, List.getElem_cons_succ, List.getElem_cons_zero]
  rw [if_pos (by rfl)]
  with_reducible refine wst88 (w.heap.size + 2) 0 (max n1 n2 - min n1 n2) (s1 && !decide (max n1 n2 - min n1 n2 = 0)) ?_ hH2.2.2.2 ?_
  · exact ⟨_, _, rfl, rfl, rfl⟩
  refine hK.out _ _ ?_ (fun hH3 => ?_)
  · exact ⟨below_set hH2.1 (by omega) _ _, range_setk hH2.2.1 (by first | trivial | omega), range_setk hH2.2.2.1 (by first | trivial | omega), there_setk hH2.2.2.2 (by first | trivial | omega)⟩
  clear hK K
  try simp only [Act.put]
  refine wpAnyH_done (by kernel_rfl) ?_ _
  go_wp2
  refine ret88 Tryz.results78 (w.heap.size + 2) 0 rfl (max n1 n2 - min n1 n2) (s1 && !decide (max n1 n2 - min n1 n2 = 0)) (range_set hH2.2.2.2 (by rw [sgL_len])) rfl ⟨rfl, hH3.1⟩

set_option maxHeartbeats 4000000 in
theorem plusS_lt (n1 n2 : Nat) (s1 s2 : Bool) (hs : s1 ≠ s2) (hc : n1 < n2) (h1 : n1 < bb ^ 30) (h2 : n2 < bb ^ 30) (w : World) :
    Calls Tryz.prog 78 #[.agg (sgL n1 s1).toArray, .agg (sgL n2 s2).toArray] w fun e w' => e = .returned (.agg (sgL (max n1 n2 - min n1 n2) (s2 && !decide (max n1 n2 - min n1 n2 = 0))).toArray) ∧ Below w.heap.size w w' := by
  have hs' : (s1 == s2) = false := by simpa using hs
  have H1 := Lib.hid h1; have H2 := Lib.hid h2
  have H3 := Lib.hid (show max n1 n2 - min n1 n2 < bb ^ 30 by omega)
  have Hmx := Lib.hid (show max n2 n1 - min n2 n1 = max n1 n2 - min n1 n2 by omega)
  have hC := fun w => compare_any n1 n2 h1 h2 w
  obtain ⟨x, hx⟩ : ∃ x, cmpN n1 n2 = x := ⟨_, rfl⟩
  rw [hx] at hC
  have t1 : decide (x < 0) = true := by simpa [cmp_neg hx] using hc
  have HC := Lib.hid hC
  clear h1 h2 hs hx hC hc
  have c1 : (sgL n1 s1)[30]? = some (.bool s1) := sgL_get
  have c2 : (sgL n2 s2)[30]? = some (.bool s2) := sgL_get
  have Hb := Lib.hid (show Below w.heap.size w (((w.alloc (.cells (sgL n1 s1).toArray 88)).alloc (.cells (sgL n2 s2).toArray 88)).alloc (.cells (sgL 0 false).toArray 88)) from (((Below.refl w.heap.size w).alloc (Nat.le_refl _) _).alloc (by simp) _).alloc (by simp; omega) _)
  have Hr1 := Lib.hid (show (((w.alloc (.cells (sgL n1 s1).toArray 88)).alloc (.cells (sgL n2 s2).toArray 88)).alloc (.cells (sgL 0 false).toArray 88)).rangeAt w.heap.size 0 (sgL n1 s1) from World.rangeAt_alloc (World.rangeAt_alloc (range_new w _ 88) _) _)
  have Hr2 := Lib.hid (show (((w.alloc (.cells (sgL n1 s1).toArray 88)).alloc (.cells (sgL n2 s2).toArray 88)).alloc (.cells (sgL 0 false).toArray 88)).rangeAt (w.heap.size + 1) 0 (sgL n2 s2) from World.rangeAt_alloc (range_at (by simp) _ 88) _)
  have Ht := Lib.hid (show (((w.alloc (.cells (sgL n1 s1).toArray 88)).alloc (.cells (sgL n2 s2).toArray 88)).alloc (.cells (sgL 0 false).toArray 88)).there (w.heap.size + 2) 0 31 from there_at (by simp) _ 88 (by rw [sgL_len]))
  have Ht1 := Lib.hid (show (((w.alloc (.cells (sgL n1 s1).toArray 88)).alloc (.cells (sgL n2 s2).toArray 88)).alloc (.cells (sgL 0 false).toArray 88)).there w.heap.size 0 31 from World.there_alloc (World.there_alloc (there_new w _ 88 31 (by rw [sgL_len])) _) _)
  have Ht2 := Lib.hid (show (((w.alloc (.cells (sgL n1 s1).toArray 88)).alloc (.cells (sgL n2 s2).toArray 88)).alloc (.cells (sgL 0 false).toArray 88)).there (w.heap.size + 1) 0 31 from World.there_alloc (there_at (by simp) _ 88 (by rw [sgL_len])) _)
  go_enter Tryz.func78, Tryz.ntmps78
  go_wp2_with (first
    | ((with_reducible refine al_zb 88 _ (w.heap.size + 2) ?_ ?_ z88 ?_); (· exact ⟨rfl, rfl⟩); · (simp; done))
    | ((with_reducible refine ld86 w.heap.size 0 n1 ?_ ?_ ?_); (· exact ⟨rfl, _, rfl, rfl⟩); · exact (range_sg Hr1.out).1)
    | ((with_reducible refine ld86 (w.heap.size + 1) 0 n2 ?_ ?_ ?_); (· exact ⟨rfl, _, rfl, rfl⟩); · exact (range_sg Hr2.out).1)
    | (go_at_call 146; (with_reducible refine (HC.out _).mono ?_); rintro e w1 ⟨rfl, hb1⟩; have HB1 := Lib.hid hb1; clear hb1)
    | ((with_reducible refine ld88 (w.heap.size + 1) 0 n2 s2 ?_ ?_ ?_); (· exact ⟨rfl, _, rfl, rfl⟩); · exact (range_keep Hr2.out HB1.out))
    | ((with_reducible refine ld88 w.heap.size 0 n1 s1 ?_ ?_ ?_); (· exact ⟨rfl, _, rfl, rfl⟩); · exact (range_keep Hr1.out HB1.out))
    | ((with_reducible refine st88 w.heap.size 0 n2 s2 ?_ ?_ ?_); (· exact ⟨rfl, _, _, rfl, rfl, rfl⟩); · exact (there_keep Ht1.out HB1.out))
    | ((with_reducible refine st88 (w.heap.size + 1) 0 n1 s1 ?_ ?_ ?_); (· exact ⟨rfl, _, _, rfl, rfl, rfl⟩); · exact (World.there_setCells (there_keep Ht2.out HB1.out) _ _ _)))
  have HBq := Lib.hid (Hb.out.trans (HB1.out.mono Hb.out.size))
  refine wp_region_held_drew (S := (fun w' => Below w.heap.size w w' ∧ w'.rangeAt w.heap.size 0 (sgL n2 s2) ∧ w'.rangeAt (w.heap.size + 1) 0 (sgL n1 s1) ∧ w'.there (w.heap.size + 2) 0 31)) (by kernel_rfl) ?_ (fun hH => ?_)
  · exact ⟨(below_set (below_set HBq.out (Nat.le_refl _) _ _) (by omega) _ _).drew, range_setk (range_set (there_keep Ht1.out HB1.out) (by rw [sgL_len])) (by omega), range_set (World.there_setCells (there_keep Ht2.out HB1.out) _ _ _) (by rw [sgL_len]), World.there_setCells (World.there_setCells (there_keep Ht.out HB1.out) _ _ _) _ _ _⟩
  try dsimp only at hH
  refine wpAnyH_take (i := 0) (v := (.pointer (some ⟨w.heap.size, 0, none⟩))) rfl (by kernel_rfl) (by kernel_rfl) (by kernel_rfl) (fun _ _ _ h => h) (Or.inl ⟨by rfl, fun wz hz => by skip; go_simp⟩) hH ?_
  try simp only [Act.put, List.getElem_toArray, List.getElem_cons_zero, List.setIfInBounds_toArray, List.set_cons_zero, List.set_cons_succ]
  refine wpAnyH_take (i := 1) (v := (.agg (mgL n2).toArray)) rfl (by kernel_rfl) (by kernel_rfl) (by kernel_rfl) (fun _ _ _ h => h) (yld86 w.heap.size 0 n2 rfl ⟨_, rfl, rfl⟩ (fun wz hz => (range_sg hz.2.1).1)) hH ?_
  try simp only [Act.put, List.getElem_toArray, List.getElem_cons_succ, List.getElem_cons_zero, List.setIfInBounds_toArray, List.set_cons_zero, List.set_cons_succ]
  refine wpAnyH_take (i := 2) (v := (.pointer (some ⟨(w.heap.size + 1), 0, none⟩))) rfl (by kernel_rfl) (by kernel_rfl) (by kernel_rfl) (fun _ _ _ h => h) (Or.inl ⟨by rfl, fun wz hz => by skip; go_simp⟩) hH ?_
  try simp only [Act.put, List.getElem_toArray, List.getElem_cons_succ, List.getElem_cons_zero, List.setIfInBounds_toArray, List.set_cons_zero, List.set_cons_succ]
  refine wpAnyH_take (i := 3) (v := (.agg (mgL n1).toArray)) rfl (by kernel_rfl) (by kernel_rfl) (by kernel_rfl) (fun _ _ _ h => h) (yld86 (w.heap.size + 1) 0 n1 rfl ⟨_, rfl, rfl⟩ (fun wz hz => (range_sg hz.2.2.1).1)) hH ?_
  try simp only [Act.put, List.getElem_toArray, List.getElem_cons_succ, List.getElem_cons_zero, List.setIfInBounds_toArray, List.set_cons_zero, List.set_cons_succ]
  refine wpAnyH_take (i := 5) (v := (.pointer (some ⟨w.heap.size, 30, none⟩))) rfl (by kernel_rfl) (by kernel_rfl) (by kernel_rfl) (fun _ _ _ h => h) (Or.inl ⟨by rfl, fun wz hz => by skip; go_simp⟩) hH ?_
  try simp only [Act.put, List.getElem_toArray, List.getElem_cons_succ, List.getElem_cons_zero, List.setIfInBounds_toArray, List.set_cons_zero, List.set_cons_succ]
  refine wpAnyH_take (i := 6) (v := (.bool s2)) rfl (by kernel_rfl) (by kernel_rfl) (by kernel_rfl) (fun _ _ _ h => h) (Or.inl ⟨by rfl, fun wz hz => by have hc := cell_sg hz.2.1; go_simp⟩) hH ?_
  try simp only [Act.put, List.getElem_toArray, List.getElem_cons_succ, List.getElem_cons_zero, List.setIfInBounds_toArray, List.set_cons_zero, List.set_cons_succ]
  refine wpAnyH_ready (rs := [4]) (by kernel_rfl) (by simp) ?_
  refine AllReadyH.cons rfl (fun K hK => ?_) AllReadyH.nil
  simp only [List.getElem_toArray, List.getElem_cons_succ, List.getElem_cons_zero]
  rw [if_pos (by rfl)]
  go_simp
  refine (distance_any n2 n1 H2.out H1.out _).mono ?_; rintro e w1 ⟨rfl, hb1⟩
  try simp only []
  refine hK.out _ _ ?_ (fun hH1 => ?_)
  · exact ⟨(hH.1).trans (hb1.mono (hH.1).size), range_keep hH.2.1 hb1, range_keep hH.2.2.1 hb1, there_keep hH.2.2.2 hb1⟩
  clear hK K
  try simp only [Act.put, List.getElem_toArray, List.getElem_cons_succ, List.getElem_cons_zero, List.setIfInBounds_toArray, List.set_cons_zero, List.set_cons_succ]
  refine wpAnyH_ready (rs := [7]) (by kernel_rfl) (by simp) ?_
  refine AllReadyH.cons rfl (fun K hK => ?_) AllReadyH.nil
  simp only [List.getElem_toArray, List.getElem_cons_succ, List.getElem_cons_zero]
  rw [if_pos (by rfl)]
  go_simp
  refine (number_any (max n2 n1 - min n2 n1) s2 (by rw [Hmx.out]; exact H3.out) _).mono ?_; rintro e w2 ⟨rfl, hb2⟩
  try simp only []
  refine hK.out _ _ ?_ (fun hH2 => ?_)
  · exact ⟨(hH1.1).trans (hb2.mono (hH1.1).size), range_keep hH1.2.1 hb2, range_keep hH1.2.2.1 hb2, there_keep hH1.2.2.2 hb2⟩
  clear hK K
  try simp only [Act.put, List.getElem_toArray, List.getElem_cons_succ, List.getElem_cons_zero, List.setIfInBounds_toArray, List.set_cons_zero, List.set_cons_succ]
  refine wpAnyH_ready (rs := [8]) (by kernel_rfl) (by simp) ?_
  refine AllReadyH.cons rfl (fun K hK => ?_) AllReadyH.nil
  simp only [List.getElem_toArray, List.getElem_cons_succ, List.getElem_cons_zero]
  rw [if_pos (by rfl)]
  with_reducible refine wst88 (w.heap.size + 2) 0 (max n2 n1 - min n2 n1) (s2 && !decide (max n2 n1 - min n2 n1 = 0)) ?_ hH2.2.2.2 ?_
  · exact ⟨_, _, rfl, rfl, rfl⟩
  refine hK.out _ _ ?_ (fun hH3 => ?_)
  · exact ⟨below_set hH2.1 (by omega) _ _, range_setk hH2.2.1 (by first | trivial | omega), range_setk hH2.2.2.1 (by first | trivial | omega), there_setk hH2.2.2.2 (by first | trivial | omega)⟩
  clear hK K
  try simp only [Act.put]
  refine wpAnyH_done (by kernel_rfl) ?_ _
  go_wp2
  refine ret88 Tryz.results78 (w.heap.size + 2) 0 rfl (max n2 n1 - min n2 n1) (s2 && !decide (max n2 n1 - min n2 n1 = 0)) (range_set hH2.2.2.2 (by rw [sgL_len])) rfl ⟨by rw [Hmx.out], hH3.1⟩
end Go.Proofs.YtpbegoflpfdajaaGreatDoor

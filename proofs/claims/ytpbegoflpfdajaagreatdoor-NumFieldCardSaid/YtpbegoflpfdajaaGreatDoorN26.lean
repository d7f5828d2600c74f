/- WHAT IS PROVED: contracts of functions of the numbers package and laws for them, used by the last text of this claim. CONDITIONS: stated at each theorem. -/
import Derived.Test.YtpbegoflpfdajaaGreatDoorN25
namespace Go.Proofs.YtpbegoflpfdajaaGreatDoor
open Go.RowKit

set_option maxHeartbeats 1000000 in
set_option maxRecDepth 20000 in
/-- ratio, by a positive number of one limb -/
theorem ratio_pos (p : Nat) (s : Bool) (q : Nat) (hp : p < bb ^ 29) (hq : q < bb ^ 29) (h0 : 0 < q) (w : World) :
    Calls Tryz.prog 117 #[.agg (sgL p s).toArray, .agg (sgL q false).toArray] w fun e w' => e = .returned (.agg (frL (p / Nat.gcd p q) (s && !decide (p / Nat.gcd p q = 0)) (q / Nat.gcd p q) false).toArray) ∧ Below w.heap.size w w' := by
  have cr := fun w => reduced_any p s q false hp hq h0 w
  obtain ⟨a, ha⟩ : ∃ a, p / Nat.gcd p q = a := ⟨_, rfl⟩
  obtain ⟨b, hb⟩ : ∃ b, (s && !decide (p / Nat.gcd p q = 0)) = b := ⟨_, rfl⟩
  obtain ⟨c, hc⟩ : ∃ c, q / Nat.gcd p q = c := ⟨_, rfl⟩
  rw [hb, ha, hc] at cr
  rw [hb, ha, hc]
  have Cr := Lib.hid cr
  have Hb := Lib.hid (show Below w.heap.size w (((w.alloc (.cells (sgL p s).toArray 88)).alloc (.cells (sgL q false).toArray 88)).alloc (.cells (frL 0 false 0 false).toArray 115)) from (((Below.refl w.heap.size w).alloc (Nat.le_refl _) _).alloc (by simp) _).alloc (by simp; omega) _)
  have Hr1 := Lib.hid (show (((w.alloc (.cells (sgL p s).toArray 88)).alloc (.cells (sgL q false).toArray 88)).alloc (.cells (frL 0 false 0 false).toArray 115)).rangeAt w.heap.size 0 (sgL p s) from World.rangeAt_alloc (World.rangeAt_alloc (range_new w _ 88) _) _)
  have hr2 : (((w.alloc (.cells (sgL p s).toArray 88)).alloc (.cells (sgL q false).toArray 88)).alloc (.cells (frL 0 false 0 false).toArray 115)).rangeAt (w.heap.size + 1) 0 (sgL q false) := World.rangeAt_alloc (range_at (by simp) _ 88) _
  have Hr2 := Lib.hid hr2
  have hcell := cell_sg hr2
  have Ht := Lib.hid (show (((w.alloc (.cells (sgL p s).toArray 88)).alloc (.cells (sgL q false).toArray 88)).alloc (.cells (frL 0 false 0 false).toArray 115)).there (w.heap.size + 2) 0 62 from there_at (by simp) _ 115 (by rw [frL_len]))
  clear cr ha hb hc hp hq h0 hr2
  go_enter Tryz.func117, Tryz.ntmps117
  go_wp2_with (first
    | ((with_reducible refine al_zb 115 _ (w.heap.size + 2) ?_ ?_ z115 ?_); (· exact ⟨rfl, rfl⟩); · (simp; done))
    | ((with_reducible refine ld88 w.heap.size 0 p s ?_ ?_ ?_); (· exact ⟨rfl, _, rfl, rfl⟩); · exact Hr1.out)
    | ((with_reducible refine ld88 (w.heap.size + 1) 0 q false ?_ ?_ ?_); (· exact ⟨rfl, _, rfl, rfl⟩); · exact Hr2.out)
    | ((with_reducible refine b115 p s q false ?_ ?_); (· exact ⟨rfl, _, _, rfl, rfl, rfl⟩))
    | (go_at_call 115; (with_reducible refine (Cr.out _).mono ?_); rintro e w1 ⟨rfl, hb1⟩; have HB1 := Lib.hid hb1; clear hb1)
    | ((with_reducible refine st115 (w.heap.size + 2) 0 a b c false ?_ ?_ ?_); (· exact ⟨rfl, _, _, rfl, rfl, rfl⟩); · exact there_keep Ht.out HB1.out))

  refine ret115 Tryz.results117 (w.heap.size + 2) 0 rfl a b c false (range_set (there_keep Ht.out HB1.out) (by rw [frL_len])) rfl ⟨rfl, ?_⟩
  exact below_set (Hb.out.trans (HB1.out.mono Hb.out.size)) (by omega) _ _
end Go.Proofs.YtpbegoflpfdajaaGreatDoor

namespace Go.Proofs.YtpbegoflpfdajaaGreatDoor
open Go.RowKit

theorem wld88 {op : Oper} {a : Act} {w : World} {K : Act → World → Prop} {Q : Exit → Act → World → Prop} (b o : Nat) (n : Nat) (s : Bool) (ho : ∃ x, op.op = .load 88 x ∧ a.eval x = .pointer (some ⟨b, o, none⟩)) (hc : w.rangeAt b o (sgL n s)) (h : K (a.put op.dst (.agg (sgL n s).toArray)) w) : op.wp Tryz.prog a w K Q :=
  let ⟨x, h1, h2⟩ := ho; wp_load_mid 88 x h1 b o h2 (sgL n s) _ hc Tryz.underlying88 rfl (by rw [sgL_len]; exact i88) h

set_option maxHeartbeats 4000000 in
set_option maxRecDepth 20000 in
/-- ratio, by a negative number -/
theorem ratio_neg (p : Nat) (s : Bool) (q : Nat) (hp : p < bb ^ 29) (hq : q < bb ^ 29) (h0 : 0 < q) (w : World) :
    Calls Tryz.prog 117 #[.agg (sgL p s).toArray, .agg (sgL q true).toArray] w fun e w' => e = .returned (.agg (frL (p / Nat.gcd p q) ((!s && !decide (p = 0)) && !decide (p / Nat.gcd p q = 0)) (q / Nat.gcd p q) false).toArray) ∧ Below w.heap.size w w' := by
  obtain ⟨s', hs'⟩ : ∃ b, (!s && !decide (p = 0)) = b := ⟨_, rfl⟩
  have c1 := fun w => negated_any p s (Nat.lt_of_lt_of_le hp (pow_mono (by omega))) w
  have c2 := fun w => negated_any q true (Nat.lt_of_lt_of_le hq (pow_mono (by omega))) w
  rw [hs'] at c1 ⊢
  rw [show (!true && !decide (q = 0)) = false from rfl] at c2
  have C1 := Lib.hid c1; have C2 := Lib.hid c2
  have cr := fun w => reduced_any p s' q false hp hq h0 w
  obtain ⟨a, ha⟩ : ∃ a, p / Nat.gcd p q = a := ⟨_, rfl⟩
  obtain ⟨b, hb⟩ : ∃ b, (s' && !decide (p / Nat.gcd p q = 0)) = b := ⟨_, rfl⟩
  obtain ⟨c, hc⟩ : ∃ c, q / Nat.gcd p q = c := ⟨_, rfl⟩
  rw [hb, ha, hc] at cr
  rw [hb, ha, hc]
  have Cr := Lib.hid cr
  have Hb := Lib.hid (show Below w.heap.size w (((w.alloc (.cells (sgL p s).toArray 88)).alloc (.cells (sgL q true).toArray 88)).alloc (.cells (frL 0 false 0 false).toArray 115)) from (((Below.refl w.heap.size w).alloc (Nat.le_refl _) _).alloc (by simp) _).alloc (by simp; omega) _)
  have Hr1 := Lib.hid (show (((w.alloc (.cells (sgL p s).toArray 88)).alloc (.cells (sgL q true).toArray 88)).alloc (.cells (frL 0 false 0 false).toArray 115)).rangeAt w.heap.size 0 (sgL p s) from World.rangeAt_alloc (World.rangeAt_alloc (range_new w _ 88) _) _)
  have hr2 : (((w.alloc (.cells (sgL p s).toArray 88)).alloc (.cells (sgL q true).toArray 88)).alloc (.cells (frL 0 false 0 false).toArray 115)).rangeAt (w.heap.size + 1) 0 (sgL q true) := World.rangeAt_alloc (range_at (by simp) _ 88) _
  have Hr2 := Lib.hid hr2
  have hcell := cell_sg hr2
  have Ht1 := Lib.hid (show (((w.alloc (.cells (sgL p s).toArray 88)).alloc (.cells (sgL q true).toArray 88)).alloc (.cells (frL 0 false 0 false).toArray 115)).there w.heap.size 0 31 from World.there_alloc (World.there_alloc (there_at rfl _ 88 (by rw [sgL_len])) _) _)
  have Ht2 := Lib.hid (show (((w.alloc (.cells (sgL p s).toArray 88)).alloc (.cells (sgL q true).toArray 88)).alloc (.cells (frL 0 false 0 false).toArray 115)).there (w.heap.size + 1) 0 31 from World.there_alloc (there_at (by simp) _ 88 (by rw [sgL_len])) _)
  have Ht := Lib.hid (show (((w.alloc (.cells (sgL p s).toArray 88)).alloc (.cells (sgL q true).toArray 88)).alloc (.cells (frL 0 false 0 false).toArray 115)).there (w.heap.size + 2) 0 62 from there_at (by simp) _ 115 (by rw [frL_len]))
  clear cr ha hb hc hp hq h0 hr2 c1 c2 hs'
  go_enter Tryz.func117, Tryz.ntmps117
  go_wp2_with (first
    | ((with_reducible refine al_zb 115 _ (w.heap.size + 2) ?_ ?_ z115 ?_); (· exact ⟨rfl, rfl⟩); · (simp; done)))
  try simp only [Act.put, List.getElem_toArray, List.getElem_cons_succ, List.getElem_cons_zero, List.setIfInBounds_toArray, List.set_cons_zero, List.set_cons_succ]
  have B0 := Lib.hid (show Below w.heap.size w (((w.alloc (.cells (sgL p s).toArray 88)).alloc (.cells (sgL q true).toArray 88)).alloc (.cells (frL 0 false 0 false).toArray 115)).drew from Hb.out.drew)
  have R1 := Lib.hid (show (((w.alloc (.cells (sgL p s).toArray 88)).alloc (.cells (sgL q true).toArray 88)).alloc (.cells (frL 0 false 0 false).toArray 115)).drew.rangeAt w.heap.size 0 (sgL p s) from Hr1.out)
  have R2 := Lib.hid (show (((w.alloc (.cells (sgL p s).toArray 88)).alloc (.cells (sgL q true).toArray 88)).alloc (.cells (frL 0 false 0 false).toArray 115)).drew.rangeAt (w.heap.size + 1) 0 (sgL q true) from Hr2.out)
  have T1 := Lib.hid (show (((w.alloc (.cells (sgL p s).toArray 88)).alloc (.cells (sgL q true).toArray 88)).alloc (.cells (frL 0 false 0 false).toArray 115)).drew.there w.heap.size 0 31 from Ht1.out)
  have T2 := Lib.hid (show (((w.alloc (.cells (sgL p s).toArray 88)).alloc (.cells (sgL q true).toArray 88)).alloc (.cells (frL 0 false 0 false).toArray 115)).drew.there (w.heap.size + 1) 0 31 from Ht2.out)
  have T := Lib.hid (show (((w.alloc (.cells (sgL p s).toArray 88)).alloc (.cells (sgL q true).toArray 88)).alloc (.cells (frL 0 false 0 false).toArray 115)).drew.there (w.heap.size + 2) 0 62 from Ht.out)
  clear hcell Hr1 Hr2 Ht1 Ht2 Ht Hb
  refine wp_region_drew (by kernel_rfl) ?_
  refine wpAny_ready (rs := [0, 2]) (by kernel_rfl) (by simp) ?_
  refine AllReady.cons rfl (fun K hK => ?_) ?_
  · simp only [List.getElem_toArray, List.getElem_cons_zero]
    rw [if_pos (by rfl)]
    refine wld88 w.heap.size 0 p s ⟨_, rfl, rfl⟩ R1.out ?_
    refine hK _ _ ?_; clear hK K
    try simp only [Act.put, List.setIfInBounds_toArray, List.set_cons_zero, List.set_cons_succ]
    refine wpAny_ready (rs := [1, 2]) (by kernel_rfl) (by simp) ?_
    refine AllReady.cons rfl (fun K hK => ?_) ?_
    · simp only [List.getElem_toArray, List.getElem_cons_succ, List.getElem_cons_zero]
      rw [if_pos (by rfl)]
      go_simp
      refine (C1.out _).mono ?_; rintro e w1 ⟨rfl, hb1⟩
      have HB1 := Lib.hid hb1; clear hb1
      try simp only []
      refine hK _ _ ?_; clear hK K
      try simp only [Act.put, List.getElem_toArray, List.getElem_cons_succ, List.getElem_cons_zero, List.setIfInBounds_toArray, List.set_cons_zero, List.set_cons_succ]
      refine wpAny_ready (rs := [2]) (by kernel_rfl) (by simp) ?_
      refine AllReady.cons rfl (fun K hK => ?_) AllReady.nil
      simp only [List.getElem_toArray, List.getElem_cons_succ, List.getElem_cons_zero]
      rw [if_pos (by rfl)]
      refine wld88 (w.heap.size + 1) 0 q true ⟨_, rfl, rfl⟩ (range_keep R2.out HB1.out) ?_
      refine hK _ _ ?_; clear hK K
      try simp only [Act.put, List.setIfInBounds_toArray, List.set_cons_zero, List.set_cons_succ]
      refine wpAny_ready (rs := [3]) (by kernel_rfl) (by simp) ?_
      refine AllReady.cons rfl (fun K hK => ?_) AllReady.nil
      simp only [List.getElem_toArray, List.getElem_cons_succ, List.getElem_cons_zero]
      rw [if_pos (by rfl)]
      go_simp
      refine (C2.out _).mono ?_; rintro e w2 ⟨rfl, hb2⟩
      have HB2 := Lib.hid (HB1.out.trans (hb2.mono HB1.out.size)); clear hb2
      try simp only []
      refine hK _ _ ?_; clear hK K
      try simp only [Act.put, List.getElem_toArray, List.getElem_cons_succ, List.getElem_cons_zero, List.setIfInBounds_toArray, List.set_cons_zero, List.set_cons_succ]
      refine wpAny_ready (rs := [4]) (by kernel_rfl) (by simp) ?_
      refine AllReady.cons rfl (fun K hK => ?_) AllReady.nil
      simp only [List.getElem_toArray, List.getElem_cons_succ, List.getElem_cons_zero]
      rw [if_pos (by rfl)]
      refine wst88 w.heap.size 0 p s' ⟨_, _, rfl, rfl, rfl⟩ (there_keep T1.out HB2.out) ?_
      refine hK _ _ ?_; clear hK K
      try simp only [Act.put]
      refine wpAny_ready (rs := [5]) (by kernel_rfl) (by simp) ?_
      refine AllReady.cons rfl (fun K hK => ?_) AllReady.nil
      simp only [List.getElem_toArray, List.getElem_cons_succ, List.getElem_cons_zero]
      rw [if_pos (by rfl)]
      refine wst88 (w.heap.size + 1) 0 q false ⟨_, _, rfl, rfl, rfl⟩ (World.there_setCells (there_keep T2.out HB2.out) _ _ _) ?_
      refine hK _ _ ?_; clear hK K
      try simp only [Act.put]
      refine wpAny_done (by kernel_rfl) ?_ _
      have A1 := Lib.hid (show ((w2.setCells w.heap.size 0 (sgL p s')).setCells (w.heap.size + 1) 0 (sgL q false)).rangeAt w.heap.size 0 (sgL p s') from range_setk (range_set (there_keep T1.out HB2.out) (by rw [sgL_len])) (by omega))
      have A2 := Lib.hid (show ((w2.setCells w.heap.size 0 (sgL p s')).setCells (w.heap.size + 1) 0 (sgL q false)).rangeAt (w.heap.size + 1) 0 (sgL q false) from range_set (World.there_setCells (there_keep T2.out HB2.out) _ _ _) (by rw [sgL_len]))
      have A3 := Lib.hid (show ((w2.setCells w.heap.size 0 (sgL p s')).setCells (w.heap.size + 1) 0 (sgL q false)).there (w.heap.size + 2) 0 62 from World.there_setCells (World.there_setCells (there_keep T.out HB2.out) _ _ _) _ _ _)
      have A4 := Lib.hid (below_set (below_set (B0.out.trans (HB2.out.mono B0.out.size)) (Nat.le_refl _) 0 (sgL p s')) (show w.heap.size ≤ w.heap.size + 1 by omega) 0 (sgL q false))
      go_wp2_with (first
        | ((with_reducible refine ld88 w.heap.size 0 p s' ?_ ?_ ?_); (· exact ⟨rfl, _, rfl, rfl⟩); · exact A1.out)
        | ((with_reducible refine ld88 (w.heap.size + 1) 0 q false ?_ ?_ ?_); (· exact ⟨rfl, _, rfl, rfl⟩); · exact A2.out)
        | ((with_reducible refine b115 p s' q false ?_ ?_); (· exact ⟨rfl, _, _, rfl, rfl, rfl⟩))
        | (go_at_call 115; (with_reducible refine (Cr.out _).mono ?_); rintro e w3 ⟨rfl, hb3⟩; have HB3 := Lib.hid hb3; clear hb3)
        | ((with_reducible refine st115 (w.heap.size + 2) 0 a b c false ?_ ?_ ?_); (· exact ⟨rfl, _, _, rfl, rfl, rfl⟩); · exact there_keep A3.out HB3.out))
      refine ret115 Tryz.results117 (w.heap.size + 2) 0 rfl a b c false (range_set (there_keep A3.out HB3.out) (by rw [frL_len])) rfl ⟨rfl, ?_⟩
      exact below_set (A4.out.trans (HB3.out.mono A4.out.size)) (by omega) _ _
    refine AllReady.cons rfl (fun K hK => ?_) AllReady.nil
    simp only [List.getElem_toArray, List.getElem_cons_succ, List.getElem_cons_zero]
    rw [if_pos (by rfl)]
    refine wld88 (w.heap.size + 1) 0 q true ⟨_, rfl, rfl⟩ R2.out ?_
    refine hK _ _ ?_; clear hK K
    try simp only [Act.put, List.setIfInBounds_toArray, List.set_cons_zero, List.set_cons_succ]
    refine wpAny_ready (rs := [1]) (by kernel_rfl) (by simp) ?_
    refine AllReady.cons rfl (fun K hK => ?_) AllReady.nil
    simp only [List.getElem_toArray, List.getElem_cons_succ, List.getElem_cons_zero]
    rw [if_pos (by rfl)]
    go_simp
    refine (C1.out _).mono ?_; rintro e w1 ⟨rfl, hb1⟩
    have HB1 := Lib.hid hb1; clear hb1
    try simp only []
    refine hK _ _ ?_; clear hK K
    try simp only [Act.put, List.getElem_toArray, List.getElem_cons_succ, List.getElem_cons_zero, List.setIfInBounds_toArray, List.set_cons_zero, List.set_cons_succ]
    refine wpAny_ready (rs := [3]) (by kernel_rfl) (by simp) ?_
    refine AllReady.cons rfl (fun K hK => ?_) AllReady.nil
    simp only [List.getElem_toArray, List.getElem_cons_succ, List.getElem_cons_zero]
    rw [if_pos (by rfl)]
    go_simp
    refine (C2.out _).mono ?_; rintro e w2 ⟨rfl, hb2⟩
    have HB2 := Lib.hid (HB1.out.trans (hb2.mono HB1.out.size)); clear hb2
    try simp only []
    refine hK _ _ ?_; clear hK K
    try simp only [Act.put, List.getElem_toArray, List.getElem_cons_succ, List.getElem_cons_zero, List.setIfInBounds_toArray, List.set_cons_zero, List.set_cons_succ]
    refine wpAny_ready (rs := [4]) (by kernel_rfl) (by simp) ?_
    refine AllReady.cons rfl (fun K hK => ?_) AllReady.nil
    simp only [List.getElem_toArray, List.getElem_cons_succ, List.getElem_cons_zero]
    rw [if_pos (by rfl)]
    refine wst88 w.heap.size 0 p s' ⟨_, _, rfl, rfl, rfl⟩ (there_keep T1.out HB2.out) ?_
    refine hK _ _ ?_; clear hK K
    try simp only [Act.put]
    refine wpAny_ready (rs := [5]) (by kernel_rfl) (by simp) ?_
    refine AllReady.cons rfl (fun K hK => ?_) AllReady.nil
    simp only [List.getElem_toArray, List.getElem_cons_succ, List.getElem_cons_zero]
    rw [if_pos (by rfl)]
    refine wst88 (w.heap.size + 1) 0 q false ⟨_, _, rfl, rfl, rfl⟩ (World.there_setCells (there_keep T2.out HB2.out) _ _ _) ?_
    refine hK _ _ ?_; clear hK K
    try simp only [Act.put]
    refine wpAny_done (by kernel_rfl) ?_ _
    have A1 := Lib.hid (show ((w2.setCells w.heap.size 0 (sgL p s')).setCells (w.heap.size + 1) 0 (sgL q false)).rangeAt w.heap.size 0 (sgL p s') from range_setk (range_set (there_keep T1.out HB2.out) (by rw [sgL_len])) (by omega))
    have A2 := Lib.hid (show ((w2.setCells w.heap.size 0 (sgL p s')).setCells (w.heap.size + 1) 0 (sgL q false)).rangeAt (w.heap.size + 1) 0 (sgL q false) from range_set (World.there_setCells (there_keep T2.out HB2.out) _ _ _) (by rw [sgL_len]))
    have A3 := Lib.hid (show ((w2.setCells w.heap.size 0 (sgL p s')).setCells (w.heap.size + 1) 0 (sgL q false)).there (w.heap.size + 2) 0 62 from World.there_setCells (World.there_setCells (there_keep T.out HB2.out) _ _ _) _ _ _)
    have A4 := Lib.hid (below_set (below_set (B0.out.trans (HB2.out.mono B0.out.size)) (Nat.le_refl _) 0 (sgL p s')) (show w.heap.size ≤ w.heap.size + 1 by omega) 0 (sgL q false))
    go_wp2_with (first
      | ((with_reducible refine ld88 w.heap.size 0 p s' ?_ ?_ ?_); (· exact ⟨rfl, _, rfl, rfl⟩); · exact A1.out)
      | ((with_reducible refine ld88 (w.heap.size + 1) 0 q false ?_ ?_ ?_); (· exact ⟨rfl, _, rfl, rfl⟩); · exact A2.out)
      | ((with_reducible refine b115 p s' q false ?_ ?_); (· exact ⟨rfl, _, _, rfl, rfl, rfl⟩))
      | (go_at_call 115; (with_reducible refine (Cr.out _).mono ?_); rintro e w3 ⟨rfl, hb3⟩; have HB3 := Lib.hid hb3; clear hb3)
      | ((with_reducible refine st115 (w.heap.size + 2) 0 a b c false ?_ ?_ ?_); (· exact ⟨rfl, _, _, rfl, rfl, rfl⟩); · exact there_keep A3.out HB3.out))
    refine ret115 Tryz.results117 (w.heap.size + 2) 0 rfl a b c false (range_set (there_keep A3.out HB3.out) (by rw [frL_len])) rfl ⟨rfl, ?_⟩
    exact below_set (A4.out.trans (HB3.out.mono A4.out.size)) (by omega) _ _
  refine AllReady.cons rfl (fun K hK => ?_) AllReady.nil
  simp only [List.getElem_toArray, List.getElem_cons_succ, List.getElem_cons_zero]
  rw [if_pos (by rfl)]
  refine wld88 (w.heap.size + 1) 0 q true ⟨_, rfl, rfl⟩ R2.out ?_
  refine hK _ _ ?_; clear hK K
  try simp only [Act.put, List.setIfInBounds_toArray, List.set_cons_zero, List.set_cons_succ]
  refine wpAny_ready (rs := [0]) (by kernel_rfl) (by simp) ?_
  refine AllReady.cons rfl (fun K hK => ?_) AllReady.nil
  simp only [List.getElem_toArray, List.getElem_cons_zero]
  rw [if_pos (by rfl)]
  refine wld88 w.heap.size 0 p s ⟨_, rfl, rfl⟩ R1.out ?_
  refine hK _ _ ?_; clear hK K
  try simp only [Act.put, List.setIfInBounds_toArray, List.set_cons_zero, List.set_cons_succ]
  refine wpAny_ready (rs := [1]) (by kernel_rfl) (by simp) ?_
  refine AllReady.cons rfl (fun K hK => ?_) AllReady.nil
  simp only [List.getElem_toArray, List.getElem_cons_succ, List.getElem_cons_zero]
  rw [if_pos (by rfl)]
  go_simp
  refine (C1.out _).mono ?_; rintro e w1 ⟨rfl, hb1⟩
  have HB1 := Lib.hid hb1; clear hb1
  try simp only []
  refine hK _ _ ?_; clear hK K
  try simp only [Act.put, List.getElem_toArray, List.getElem_cons_succ, List.getElem_cons_zero, List.setIfInBounds_toArray, List.set_cons_zero, List.set_cons_succ]
  refine wpAny_ready (rs := [3]) (by kernel_rfl) (by simp) ?_
  refine AllReady.cons rfl (fun K hK => ?_) AllReady.nil
  simp only [List.getElem_toArray, List.getElem_cons_succ, List.getElem_cons_zero]
  rw [if_pos (by rfl)]
  go_simp
  refine (C2.out _).mono ?_; rintro e w2 ⟨rfl, hb2⟩
  have HB2 := Lib.hid (HB1.out.trans (hb2.mono HB1.out.size)); clear hb2
  try simp only []
  refine hK _ _ ?_; clear hK K
  try simp only [Act.put, List.getElem_toArray, List.getElem_cons_succ, List.getElem_cons_zero, List.setIfInBounds_toArray, List.set_cons_zero, List.set_cons_succ]
  refine wpAny_ready (rs := [4]) (by kernel_rfl) (by simp) ?_
  refine AllReady.cons rfl (fun K hK => ?_) AllReady.nil
  simp only [List.getElem_toArray, List.getElem_cons_succ, List.getElem_cons_zero]
  rw [if_pos (by rfl)]
  refine wst88 w.heap.size 0 p s' ⟨_, _, rfl, rfl, rfl⟩ (there_keep T1.out HB2.out) ?_
  refine hK _ _ ?_; clear hK K
  try simp only [Act.put]
  refine wpAny_ready (rs := [5]) (by kernel_rfl) (by simp) ?_
  refine AllReady.cons rfl (fun K hK => ?_) AllReady.nil
  simp only [List.getElem_toArray, List.getElem_cons_succ, List.getElem_cons_zero]
  rw [if_pos (by rfl)]
  refine wst88 (w.heap.size + 1) 0 q false ⟨_, _, rfl, rfl, rfl⟩ (World.there_setCells (there_keep T2.out HB2.out) _ _ _) ?_
  refine hK _ _ ?_; clear hK K
  try simp only [Act.put]
  refine wpAny_done (by kernel_rfl) ?_ _
  have A1 := Lib.hid (show ((w2.setCells w.heap.size 0 (sgL p s')).setCells (w.heap.size + 1) 0 (sgL q false)).rangeAt w.heap.size 0 (sgL p s') from range_setk (range_set (there_keep T1.out HB2.out) (by rw [sgL_len])) (by omega))
  have A2 := Lib.hid (show ((w2.setCells w.heap.size 0 (sgL p s')).setCells (w.heap.size + 1) 0 (sgL q false)).rangeAt (w.heap.size + 1) 0 (sgL q false) from range_set (World.there_setCells (there_keep T2.out HB2.out) _ _ _) (by rw [sgL_len]))
  have A3 := Lib.hid (show ((w2.setCells w.heap.size 0 (sgL p s')).setCells (w.heap.size + 1) 0 (sgL q false)).there (w.heap.size + 2) 0 62 from World.there_setCells (World.there_setCells (there_keep T.out HB2.out) _ _ _) _ _ _)
  have A4 := Lib.hid (below_set (below_set (B0.out.trans (HB2.out.mono B0.out.size)) (Nat.le_refl _) 0 (sgL p s')) (show w.heap.size ≤ w.heap.size + 1 by omega) 0 (sgL q false))
  go_wp2_with (first
    | ((with_reducible refine ld88 w.heap.size 0 p s' ?_ ?_ ?_); (· exact ⟨rfl, _, rfl, rfl⟩); · exact A1.out)
    | ((with_reducible refine ld88 (w.heap.size + 1) 0 q false ?_ ?_ ?_); (· exact ⟨rfl, _, rfl, rfl⟩); · exact A2.out)
    | ((with_reducible refine b115 p s' q false ?_ ?_); (· exact ⟨rfl, _, _, rfl, rfl, rfl⟩))
    | (go_at_call 115; (with_reducible refine (Cr.out _).mono ?_); rintro e w3 ⟨rfl, hb3⟩; have HB3 := Lib.hid hb3; clear hb3)
    | ((with_reducible refine st115 (w.heap.size + 2) 0 a b c false ?_ ?_ ?_); (· exact ⟨rfl, _, _, rfl, rfl, rfl⟩); · exact there_keep A3.out HB3.out))
  refine ret115 Tryz.results117 (w.heap.size + 2) 0 rfl a b c false (range_set (there_keep A3.out HB3.out) (by rw [frL_len])) rfl ⟨rfl, ?_⟩
  exact below_set (A4.out.trans (HB3.out.mono A4.out.size)) (by omega) _ _
/-- the sign of a ratio -/
def ratS (p : Nat) (s t : Bool) : Bool := if t then (!s && !decide (p = 0)) else s
/-- ratio -/
theorem ratio_any (p : Nat) (s : Bool) (q : Nat) (t : Bool) (hp : p < bb ^ 29) (hq : q < bb ^ 29) (h0 : 0 < q) (w : World) :
    Calls Tryz.prog 117 #[.agg (sgL p s).toArray, .agg (sgL q t).toArray] w fun e w' => e = .returned (.agg (frL (p / Nat.gcd p q) (ratS p s t && !decide (p / Nat.gcd p q = 0)) (q / Nat.gcd p q) false).toArray) ∧ Below w.heap.size w w' := by
  cases t
  · exact ratio_pos p s q hp hq h0 w
  · exact ratio_neg p s q hp hq h0 w
end Go.Proofs.YtpbegoflpfdajaaGreatDoor

namespace Go.Proofs.YtpbegoflpfdajaaGreatDoor
open Go.RowKit
open Go.Lib (decDigits nDigits decDigits_length)

theorem gl_keep {w w' : World} (h : Gl w) (hb : Below w.heap.size w w') : Gl w' := h.keep hb
theorem gl_drew {w : World} (h : Gl w) : Gl w.drew := h.keep (Below.refl _ _).drew
/-- a fraction's text -/
def frText (p : Nat) (s : Bool) (q : Nat) (t : Bool) : List UInt8 := sgText p s ++ 47 :: sgText q t
theorem sgText_size (n : Nat) (s : Bool) (hn : n < bb ^ 30) : (⟨(sgText n s).toArray⟩ : ByteArray).size ≤ 271 := by
  have := nD_bound n 30 hn (by omega)
  have h : (sgText n s).length ≤ nDigits n + 1 := by
    unfold sgText; split
    · simp [decDigits_length]
    · rw [decDigits_length]; omega
  show (sgText n s).toArray.size ≤ 271
  rw [List.size_toArray]; omega
theorem fr_text (T1 T2 : ByteArray) (l1 l2 : List UInt8) (h1 : ⟨l1.toArray⟩ = T1) (h2 : ⟨l2.toArray⟩ = T2) : (T1 ++ ⟨#[47]⟩ ++ T2 : ByteArray) = ⟨(l1 ++ 47 :: l2).toArray⟩ := by
  subst h1; subst h2
  apply ByteArray.ext
  simp

set_option maxHeartbeats 2000000 in
theorem fracString_any (p : Nat) (s : Bool) (q : Nat) (t : Bool) (hp : p < bb ^ 30) (hq : q < bb ^ 30) (w : World) (hg : Gl w) :
    Calls Tryz.prog 164 #[.agg (frL p s q t).toArray] w fun e w' => e = .returned (.string ⟨(frText p s q t).toArray⟩) ∧ Below w.heap.size w w' := by
  have hb0 : Below w.heap.size w (w.alloc (.cells (frL p s q t).toArray 115)) := (Below.refl _ _).alloc (Nat.le_refl _) _
  have HB0 := Lib.hid hb0
  have HG0 := Lib.hid (hg.keep hb0)
  have hr := range_fr (range_new w (frL p s q t) 115)
  rw [Nat.zero_add] at hr
  have Hr1 := Lib.hid hr.1; have Hr2 := Lib.hid hr.2
  have c1 := fun w g => signedString_any p s hp w g
  have c2 := fun w g => signedString_any q t hq w g
  have z1 := sgText_size p s hp
  have z2 := sgText_size q t hq
  unfold frText
  obtain ⟨l1, hl1⟩ : ∃ l, sgText p s = l := ⟨_, rfl⟩
  obtain ⟨l2, hl2⟩ : ∃ l, sgText q t = l := ⟨_, rfl⟩
  rw [hl1] at c1 z1 ⊢
  rw [hl2] at c2 z2 ⊢
  obtain ⟨T1, hT1⟩ : ∃ T : ByteArray, ⟨l1.toArray⟩ = T := ⟨_, rfl⟩
  obtain ⟨T2, hT2⟩ : ∃ T : ByteArray, ⟨l2.toArray⟩ = T := ⟨_, rfl⟩
  rw [hT1] at c1 z1
  rw [hT2] at c2 z2
  have C1 := Lib.hid c1; have C2 := Lib.hid c2; have HT := Lib.hid (fr_text T1 T2 l1 l2 hT1 hT2)
  clear c1 c2 hT1 hT2 hl1 hl2 hp hq hg hb0 hr
  go_enter Tryz.func164, Tryz.ntmps164
  go_wp2_with fail
  refine wp_region_held_drew (S := (fun w' => Below w.heap.size w w' ∧ w'.rangeAt w.heap.size 0 (sgL p s) ∧ w'.rangeAt w.heap.size 31 (sgL q t) ∧ Gl w')) (by kernel_rfl) ?_ (fun hH => ?_)
  · exact ⟨HB0.out.drew, Hr1.out, Hr2.out, gl_drew HG0.out⟩
  try dsimp only at hH
  refine wpAnyH_take (i := 0) (v := (.pointer (some ⟨w.heap.size, 0, none⟩))) rfl (by kernel_rfl) (by kernel_rfl) (by kernel_rfl) (fun _ _ _ h => h) (Or.inl ⟨by rfl, fun wz hz => by skip; go_simp⟩) hH ?_
  try simp only [Act.put, List.getElem_toArray, List.getElem_cons_zero, List.setIfInBounds_toArray, List.set_cons_zero, List.set_cons_succ]
  refine wpAnyH_take (i := 1) (v := (.agg (sgL p s).toArray)) rfl (by kernel_rfl) (by kernel_rfl) (by kernel_rfl) (fun _ _ _ h => h) (yld88 w.heap.size 0 p s rfl ⟨_, rfl, rfl⟩ (fun wz hz => hz.2.1)) hH ?_
  try simp only [Act.put, List.getElem_toArray, List.getElem_cons_succ, List.getElem_cons_zero, List.setIfInBounds_toArray, List.set_cons_zero, List.set_cons_succ]
  refine wpAnyH_take (i := 4) (v := (.pointer (some ⟨w.heap.size, 31, none⟩))) rfl (by kernel_rfl) (by kernel_rfl) (by kernel_rfl) (fun _ _ _ h => h) (Or.inl ⟨by rfl, fun wz hz => by skip; go_simp⟩) hH ?_
  try simp only [Act.put, List.getElem_toArray, List.getElem_cons_succ, List.getElem_cons_zero, List.setIfInBounds_toArray, List.set_cons_zero, List.set_cons_succ]
  refine wpAnyH_take (i := 5) (v := (.agg (sgL q t).toArray)) rfl (by kernel_rfl) (by kernel_rfl) (by kernel_rfl) (fun _ _ _ h => h) (yld88 w.heap.size 31 q t rfl ⟨_, rfl, rfl⟩ (fun wz hz => hz.2.2.1)) hH ?_
  try simp only [Act.put, List.getElem_toArray, List.getElem_cons_succ, List.getElem_cons_zero, List.setIfInBounds_toArray, List.set_cons_zero, List.set_cons_succ]
  refine wpAnyH_ready (rs := [2]) (by kernel_rfl) (by simp) ?_
  refine AllReadyH.cons rfl (fun K hK => ?_) AllReadyH.nil
  simp only [List.getElem_toArray, List.getElem_cons_succ, List.getElem_cons_zero]
  rw [if_pos (by rfl)]
  go_simp
  refine (C1.out _ hH.2.2.2).mono ?_; rintro e w1 ⟨rfl, hb1⟩
  try simp only []
  refine hK.out _ _ ?_ (fun hH1 => ?_)
  · exact ⟨(hH.1).trans (hb1.mono (hH.1).size), range_keep hH.2.1 hb1, range_keep hH.2.2.1 hb1, gl_keep hH.2.2.2 hb1⟩
  clear hK K
  try simp only [Act.put, List.getElem_toArray, List.getElem_cons_succ, List.getElem_cons_zero, List.setIfInBounds_toArray, List.set_cons_zero, List.set_cons_succ]
  refine wpAnyH_take (i := 3) (v := (.string (T1 ++ ⟨#[47]⟩))) rfl (by kernel_rfl) (by kernel_rfl) (by kernel_rfl) (fun _ _ _ h => h) (Or.inl ⟨by rfl, fun wz hz => by skip; go_simp; omega⟩) hH1 ?_
  try simp only [Act.put, List.getElem_toArray, List.getElem_cons_succ, List.getElem_cons_zero, List.setIfInBounds_toArray, List.set_cons_zero, List.set_cons_succ]
  refine wpAnyH_ready (rs := [6]) (by kernel_rfl) (by simp) ?_
  refine AllReadyH.cons rfl (fun K hK => ?_) AllReadyH.nil
  simp only [List.getElem_toArray, List.getElem_cons_succ, List.getElem_cons_zero]
  rw [if_pos (by rfl)]
  go_simp
  refine (C2.out _ hH1.2.2.2).mono ?_; rintro e w2 ⟨rfl, hb2⟩
  try simp only []
  refine hK.out _ _ ?_ (fun hH2 => ?_)
  · exact ⟨(hH1.1).trans (hb2.mono (hH1.1).size), range_keep hH1.2.1 hb2, range_keep hH1.2.2.1 hb2, gl_keep hH1.2.2.2 hb2⟩
  clear hK K
  try simp only [Act.put, List.getElem_toArray, List.getElem_cons_succ, List.getElem_cons_zero, List.setIfInBounds_toArray, List.set_cons_zero, List.set_cons_succ]
  refine wpAnyH_take (i := 7) (v := (.string (T1 ++ ⟨#[47]⟩ ++ T2))) rfl (by kernel_rfl) (by kernel_rfl) (by kernel_rfl) (fun _ _ _ h => h) (Or.inl ⟨by rfl, fun wz hz => by skip; go_simp; omega⟩) hH2 ?_
  try simp only [Act.put, List.getElem_toArray, List.getElem_cons_succ, List.getElem_cons_zero, List.setIfInBounds_toArray, List.set_cons_zero, List.set_cons_succ]
  refine wpAnyH_take (i := 8) (v := (.string (T1 ++ ⟨#[47]⟩ ++ T2))) rfl (by kernel_rfl) (by kernel_rfl) (by kernel_rfl) (fun _ _ _ h => h) (Or.inl ⟨by rfl, fun wz hz => by skip; go_simp⟩) hH2 ?_
  try simp only [Act.put, List.getElem_toArray, List.getElem_cons_succ, List.getElem_cons_zero, List.setIfInBounds_toArray, List.set_cons_zero, List.set_cons_succ]
  refine wpAnyH_done (by kernel_rfl) ?_ _
  go_wp2
  go_ret
  exact ⟨by rw [HT.out]; rfl, hH2.1⟩
end Go.Proofs.YtpbegoflpfdajaaGreatDoor

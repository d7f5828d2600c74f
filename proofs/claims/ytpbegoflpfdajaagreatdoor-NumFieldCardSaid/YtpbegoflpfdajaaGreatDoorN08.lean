/- WHAT IS PROVED: contracts of functions of the numbers package and laws for them, used by the last text of this claim. CONDITIONS: stated at each theorem. -/
import Derived.Test.YtpbegoflpfdajaaGreatDoorN07
namespace Go.Proofs.YtpbegoflpfdajaaGreatDoor
open Go.RowKit

/-- the loop of MaxFunc, MinFunc: what the blocks hold -/
def Mx (w : World) (B a b c : Nat) (w' : World) : Prop := Below w.heap.size w w' ∧ w'.rangeAt B 0 (mgL a ++ mgL b) ∧ w'.there w.heap.size 0 30 ∧ w'.rangeAt (w.heap.size + 1) 0 (mgL c) ∧ w'.there (w.heap.size + 1) 0 30
theorem range_mm {W : World} {B a b : Nat} (h : W.rangeAt B 0 (mgL a ++ mgL b)) : W.rangeAt B 0 (mgL a) ∧ W.rangeAt B 30 (mgL b) := ⟨range_left h, range_right h 30 (by rw [mgL_len])⟩
theorem cmp_pos {a b : Nat} {x : Int} (h : cmpN b a = x) : 0 < x ↔ a < b := by
  subst h; unfold cmpN
  by_cases h1 : b < a
  · rw [if_pos h1]; omega
  · rw [if_neg h1]
    by_cases h2 : a < b
    · rw [if_pos h2]; omega
    · rw [if_neg h2]; omega
theorem cmp_neg {a b : Nat} {x : Int} (h : cmpN b a = x) : x < 0 ↔ b < a := by
  subst h; unfold cmpN
  by_cases h1 : b < a
  · rw [if_pos h1]; omega
  · rw [if_neg h1]
    by_cases h2 : a < b
    · rw [if_pos h2]; omega
    · rw [if_neg h2]; omega
theorem Mx.set {w w' : World} {B a b c d : Nat} (h : Mx w B a b c w') (hB : B < w.heap.size) : Mx w B a b d (w'.setCells (w.heap.size + 1) 0 (mgL d)) :=
  ⟨below_set h.1 (by omega) _ _, range_setk h.2.1 (by omega), there_setk h.2.2.1 trivial, range_set h.2.2.2.2 (by rw [mgL_len]), there_setk h.2.2.2.2 trivial⟩

set_option maxHeartbeats 2000000 in
theorem maxF_any (a b B : Nat) (ha : a < bb ^ 30) (hb : b < bb ^ 30) (w : World) (hB : B < w.heap.size) (hr : w.rangeAt B 0 (mgL a ++ mgL b)) :
    Calls Tryz.prog 194 #[.slice (some ⟨B, 0, none⟩) 2 2, .func (.func 146) #[] #[]] w fun e w' => e = .returned (.agg (mgL (max a b)).toArray) ∧ Below w.heap.size w w' := by
  have hC := fun w => compare_any b a hb ha w
  obtain ⟨x, hx⟩ : ∃ x, cmpN b a = x := ⟨_, rfl⟩
  have Hx := Lib.hid hx
  rw [hx] at hC
  clear hx ha hb
  have HC := Lib.hid hC; clear hC
  have Hr := Lib.hid hr; clear hr
  have HB := Lib.hid hB; clear hB
  have Ht0 := Lib.hid (show (w.alloc (.cells (mgL 0).toArray 86)).there w.heap.size 0 30 from there_new w _ 86 30 (by rw [mgL_len]))
  have Ht1 := Lib.hid (show ((w.alloc (.cells (mgL 0).toArray 86)).alloc (.cells (mgL 0).toArray 86)).there (w.heap.size + 1) 0 30 from there_at (by simp) _ 86 (by rw [mgL_len]))
  have HM0 := Lib.hid (show Mx w B a b a (((w.alloc (.cells (mgL 0).toArray 86)).alloc (.cells (mgL 0).toArray 86)).setCells (w.heap.size + 1) 0 (mgL a)) from
    Mx.set (c := 0) ⟨((Below.refl w.heap.size w).alloc (Nat.le_refl _) _).alloc (by simp) _, World.rangeAt_alloc (World.rangeAt_alloc Hr.out _) _, World.there_alloc Ht0.out _, range_at (by simp) _ 86, Ht1.out⟩ HB.out)
  go_enter Tryz.func194, Tryz.ntmps194
  go_wp2_with (first
    | ((with_reducible refine al_zb 86 _ w.heap.size ?_ ?_ z86 ?_); (· exact ⟨rfl, rfl⟩); · (simp; done))
    | ((with_reducible refine al_zb 86 _ (w.heap.size + 1) ?_ ?_ z86 ?_); (· exact ⟨rfl, rfl⟩); · (simp; done))
    | ((with_reducible refine ld86 B 0 a ?_ ?_ ?_); (· exact ⟨rfl, _, rfl, rfl⟩); · exact (range_mm (World.rangeAt_alloc Hr.out _)).1)
    | ((with_reducible refine st86 (w.heap.size + 1) 0 a ?_ ?_ ?_); (· exact ⟨rfl, _, _, rfl, rfl, rfl⟩); · exact Ht1.out))
  go_loopw [6] (fun i wr => (i = .int .i64 1 ∧ Mx w B a b a wr) ∨ (i = .int .i64 2 ∧ Mx w B a b (max a b) wr)) (fun i _ => 2 - (intOf i).toNat)
  case atStart => exact Or.inl ⟨rfl, HM0.out⟩
  case round =>
    rcases hrel with ⟨rfl, hM⟩ | ⟨rfl, hM⟩
    · have hC := HC.out
      by_cases hlt : 0 < x
      · have t1 : decide (0 < x) = true := by simpa using hlt
        have Hy := Lib.hid (show max a b = b by have := (cmp_pos Hx.out).1 hlt; omega)
        clear hlt
        go_wp2_with fail
        refine wp_region_held_drew (S := (fun w' => Below w.heap.size w w' ∧ w'.rangeAt B 0 (mgL a ++ mgL b) ∧ w'.there w.heap.size 0 30 ∧ w'.rangeAt (w.heap.size + 1) 0 (mgL a) ∧ w'.there (w.heap.size + 1) 0 30)) (by kernel_rfl) ?_ (fun hH => ?_)
        · exact ⟨hM.1.drew, hM.2.1, hM.2.2.1, hM.2.2.2.1, hM.2.2.2.2⟩
        try dsimp only at hH
        refine wpAnyH_take (i := 0) (v := (.func (.func 146) #[] #[])) rfl (by kernel_rfl) (by kernel_rfl) (by kernel_rfl) (fun _ _ _ h => h) (Or.inl ⟨by rfl, fun wz hz => by skip; go_simp⟩) hH ?_
        try simp only [Act.put, List.getElem_toArray, List.getElem_cons_zero, List.setIfInBounds_toArray, List.set_cons_zero, List.set_cons_succ]
        refine wpAnyH_take (i := 1) (v := (.slice (some ⟨B, 0, none⟩) 2 2)) rfl (by kernel_rfl) (by kernel_rfl) (by kernel_rfl) (fun _ _ _ h => h) (Or.inl ⟨by rfl, fun wz hz => by skip; go_simp⟩) hH ?_
        try simp only [Act.put, List.getElem_toArray, List.getElem_cons_succ, List.getElem_cons_zero, List.setIfInBounds_toArray, List.set_cons_zero, List.set_cons_succ]
        refine wpAnyH_take (i := 2) (v := (.int .i64 1)) rfl (by kernel_rfl) (by kernel_rfl) (by kernel_rfl) (fun _ _ _ h => h) (Or.inl ⟨by rfl, fun wz hz => by skip; go_simp⟩) hH ?_
        try simp only [Act.put, List.getElem_toArray, List.getElem_cons_succ, List.getElem_cons_zero, List.setIfInBounds_toArray, List.set_cons_zero, List.set_cons_succ]
        refine wpAnyH_take (i := 3) (v := (.pointer (some ⟨B, 30, none⟩))) rfl (by kernel_rfl) (by kernel_rfl) (by kernel_rfl) (fun _ _ _ h => h) (Or.inl ⟨by rfl, fun wz hz => by skip; go_simp⟩) hH ?_
        try simp only [Act.put, List.getElem_toArray, List.getElem_cons_succ, List.getElem_cons_zero, List.setIfInBounds_toArray, List.set_cons_zero, List.set_cons_succ]
        refine wpAnyH_take (i := 4) (v := (.agg (mgL b).toArray)) rfl (by kernel_rfl) (by kernel_rfl) (by kernel_rfl) (fun _ _ _ h => h) (yld86 B 30 b rfl ⟨_, rfl, rfl⟩ (fun wz hz => (range_mm hz.2.1).2)) hH ?_
        try simp only [Act.put, List.getElem_toArray, List.getElem_cons_succ, List.getElem_cons_zero, List.setIfInBounds_toArray, List.set_cons_zero, List.set_cons_succ]
        refine wpAnyH_take (i := 5) (v := (.agg (mgL a).toArray)) rfl (by kernel_rfl) (by kernel_rfl) (by kernel_rfl) (fun _ _ _ h => h) (yld86 (w.heap.size + 1) 0 a rfl ⟨_, rfl, rfl⟩ (fun wz hz => hz.2.2.2.1)) hH ?_
        try simp only [Act.put, List.getElem_toArray, List.getElem_cons_succ, List.getElem_cons_zero, List.setIfInBounds_toArray, List.set_cons_zero, List.set_cons_succ]
        refine wpAnyH_ready (rs := [6]) (by kernel_rfl) (by simp) ?_
        refine AllReadyH.cons rfl (fun K hK => ?_) AllReadyH.nil
        simp only [List.getElem_toArray, List.getElem_cons_succ, List.getElem_cons_zero]
        rw [if_pos (by rfl)]
        go_simp
        refine (hC _).mono ?_; rintro e w1 ⟨rfl, hb1⟩
        try simp only []
        refine hK.out _ _ ?_ (fun hH1 => ?_)
        · exact ⟨(hH.1).trans (hb1.mono (hH.1).size), range_keep hH.2.1 hb1, there_keep hH.2.2.1 hb1, range_keep hH.2.2.2.1 hb1, there_keep hH.2.2.2.2 hb1⟩
        clear hK K
        try simp only [Act.put, List.getElem_toArray, List.getElem_cons_succ, List.getElem_cons_zero, List.setIfInBounds_toArray, List.set_cons_zero, List.set_cons_succ]
        refine wpAnyH_take (i := 7) (v := (.bool true)) rfl (by kernel_rfl) (by kernel_rfl) (by kernel_rfl) (fun _ _ _ h => h) (Or.inl ⟨by rfl, fun wz hz => by skip; go_simp⟩) hH1 ?_
        try simp only [Act.put, List.getElem_toArray, List.getElem_cons_succ, List.getElem_cons_zero, List.setIfInBounds_toArray, List.set_cons_zero, List.set_cons_succ]
        refine wpAnyH_done (by kernel_rfl) ?_ _
        have HM := Lib.hid (show Mx w B a b a w1 from hH1)
        clear hM hH hH1 hb1 hC
        go_wp2_with (first
          | ((with_reducible refine ld86 B 30 b ?_ ?_ ?_); (· exact ⟨rfl, _, rfl, rfl⟩); · exact (range_mm HM.out.2.1).2)
          | ((with_reducible refine st86 (w.heap.size + 1) 0 b ?_ ?_ ?_); (· exact ⟨rfl, _, _, rfl, rfl, rfl⟩); · exact HM.out.2.2.2.2))
        go_roundw
        case rel => exact Or.inr ⟨rfl, by rw [Hy.out]; exact HM.out.set HB.out⟩
        case measure => simp [intOf]
      · have t1 : decide (0 < x) = false := by simpa using hlt
        have Hy := Lib.hid (show max a b = a by have := mt (cmp_pos Hx.out).2 hlt; omega)
        clear hlt
        go_wp2_with fail
        refine wp_region_held_drew (S := (fun w' => Below w.heap.size w w' ∧ w'.rangeAt B 0 (mgL a ++ mgL b) ∧ w'.there w.heap.size 0 30 ∧ w'.rangeAt (w.heap.size + 1) 0 (mgL a) ∧ w'.there (w.heap.size + 1) 0 30)) (by kernel_rfl) ?_ (fun hH => ?_)
        · exact ⟨hM.1.drew, hM.2.1, hM.2.2.1, hM.2.2.2.1, hM.2.2.2.2⟩
        try dsimp only at hH
        refine wpAnyH_take (i := 0) (v := (.func (.func 146) #[] #[])) rfl (by kernel_rfl) (by kernel_rfl) (by kernel_rfl) (fun _ _ _ h => h) (Or.inl ⟨by rfl, fun wz hz => by skip; go_simp⟩) hH ?_
        try simp only [Act.put, List.getElem_toArray, List.getElem_cons_zero, List.setIfInBounds_toArray, List.set_cons_zero, List.set_cons_succ]
        refine wpAnyH_take (i := 1) (v := (.slice (some ⟨B, 0, none⟩) 2 2)) rfl (by kernel_rfl) (by kernel_rfl) (by kernel_rfl) (fun _ _ _ h => h) (Or.inl ⟨by rfl, fun wz hz => by skip; go_simp⟩) hH ?_
        try simp only [Act.put, List.getElem_toArray, List.getElem_cons_succ, List.getElem_cons_zero, List.setIfInBounds_toArray, List.set_cons_zero, List.set_cons_succ]
        refine wpAnyH_take (i := 2) (v := (.int .i64 1)) rfl (by kernel_rfl) (by kernel_rfl) (by kernel_rfl) (fun _ _ _ h => h) (Or.inl ⟨by rfl, fun wz hz => by skip; go_simp⟩) hH ?_
        try simp only [Act.put, List.getElem_toArray, List.getElem_cons_succ, List.getElem_cons_zero, List.setIfInBounds_toArray, List.set_cons_zero, List.set_cons_succ]
        refine wpAnyH_take (i := 3) (v := (.pointer (some ⟨B, 30, none⟩))) rfl (by kernel_rfl) (by kernel_rfl) (by kernel_rfl) (fun _ _ _ h => h) (Or.inl ⟨by rfl, fun wz hz => by skip; go_simp⟩) hH ?_
        try simp only [Act.put, List.getElem_toArray, List.getElem_cons_succ, List.getElem_cons_zero, List.setIfInBounds_toArray, List.set_cons_zero, List.set_cons_succ]
        refine wpAnyH_take (i := 4) (v := (.agg (mgL b).toArray)) rfl (by kernel_rfl) (by kernel_rfl) (by kernel_rfl) (fun _ _ _ h => h) (yld86 B 30 b rfl ⟨_, rfl, rfl⟩ (fun wz hz => (range_mm hz.2.1).2)) hH ?_
        try simp only [Act.put, List.getElem_toArray, List.getElem_cons_succ, List.getElem_cons_zero, List.setIfInBounds_toArray, List.set_cons_zero, List.set_cons_succ]
        refine wpAnyH_take (i := 5) (v := (.agg (mgL a).toArray)) rfl (by kernel_rfl) (by kernel_rfl) (by kernel_rfl) (fun _ _ _ h => h) (yld86 (w.heap.size + 1) 0 a rfl ⟨_, rfl, rfl⟩ (fun wz hz => hz.2.2.2.1)) hH ?_
        try simp only [Act.put, List.getElem_toArray, List.getElem_cons_succ, List.getElem_cons_zero, List.setIfInBounds_toArray, List.set_cons_zero, List.set_cons_succ]
        refine wpAnyH_ready (rs := [6]) (by kernel_rfl) (by simp) ?_
        refine AllReadyH.cons rfl (fun K hK => ?_) AllReadyH.nil
        simp only [List.getElem_toArray, List.getElem_cons_succ, List.getElem_cons_zero]
        rw [if_pos (by rfl)]
        go_simp
        refine (hC _).mono ?_; rintro e w1 ⟨rfl, hb1⟩
        try simp only []
        refine hK.out _ _ ?_ (fun hH1 => ?_)
        · exact ⟨(hH.1).trans (hb1.mono (hH.1).size), range_keep hH.2.1 hb1, there_keep hH.2.2.1 hb1, range_keep hH.2.2.2.1 hb1, there_keep hH.2.2.2.2 hb1⟩
        clear hK K
        try simp only [Act.put, List.getElem_toArray, List.getElem_cons_succ, List.getElem_cons_zero, List.setIfInBounds_toArray, List.set_cons_zero, List.set_cons_succ]
        refine wpAnyH_take (i := 7) (v := (.bool false)) rfl (by kernel_rfl) (by kernel_rfl) (by kernel_rfl) (fun _ _ _ h => h) (Or.inl ⟨by rfl, fun wz hz => by skip; go_simp⟩) hH1 ?_
        try simp only [Act.put, List.getElem_toArray, List.getElem_cons_succ, List.getElem_cons_zero, List.setIfInBounds_toArray, List.set_cons_zero, List.set_cons_succ]
        refine wpAnyH_done (by kernel_rfl) ?_ _
        have HM := Lib.hid (show Mx w B a b a w1 from hH1)
        clear hM hH hH1 hb1 hC
        go_wp2
        go_roundw
        case rel => exact Or.inr ⟨rfl, by rw [Hy.out]; exact HM.out⟩
        case measure => simp [intOf]
    · have HM := Lib.hid hM
      clear hM
      go_wp2_with (first
        | ((with_reducible refine ld86 (w.heap.size + 1) 0 (max a b) ?_ ?_ ?_); (· exact ⟨rfl, _, rfl, rfl⟩); · exact HM.out.2.2.2.1)
        | ((with_reducible refine st86 w.heap.size 0 (max a b) ?_ ?_ ?_); (· exact ⟨rfl, _, _, rfl, rfl, rfl⟩); · exact HM.out.2.2.1))
      refine ret86 Tryz.results194 w.heap.size 0 rfl (max a b) (range_set HM.out.2.2.1 (by rw [mgL_len])) rfl ⟨rfl, ?_⟩
      exact below_set HM.out.1 (Nat.le_refl _) _ _

set_option maxHeartbeats 2000000 in
theorem minF_any (a b B : Nat) (ha : a < bb ^ 30) (hb : b < bb ^ 30) (w : World) (hB : B < w.heap.size) (hr : w.rangeAt B 0 (mgL a ++ mgL b)) :
    Calls Tryz.prog 195 #[.slice (some ⟨B, 0, none⟩) 2 2, .func (.func 146) #[] #[]] w fun e w' => e = .returned (.agg (mgL (min a b)).toArray) ∧ Below w.heap.size w w' := by
  have hC := fun w => compare_any b a hb ha w
  obtain ⟨x, hx⟩ : ∃ x, cmpN b a = x := ⟨_, rfl⟩
  have Hx := Lib.hid hx
  rw [hx] at hC
  clear hx ha hb
  have HC := Lib.hid hC; clear hC
  have Hr := Lib.hid hr; clear hr
  have HB := Lib.hid hB; clear hB
  have Ht0 := Lib.hid (show (w.alloc (.cells (mgL 0).toArray 86)).there w.heap.size 0 30 from there_new w _ 86 30 (by rw [mgL_len]))
  have Ht1 := Lib.hid (show ((w.alloc (.cells (mgL 0).toArray 86)).alloc (.cells (mgL 0).toArray 86)).there (w.heap.size + 1) 0 30 from there_at (by simp) _ 86 (by rw [mgL_len]))
  have HM0 := Lib.hid (show Mx w B a b a (((w.alloc (.cells (mgL 0).toArray 86)).alloc (.cells (mgL 0).toArray 86)).setCells (w.heap.size + 1) 0 (mgL a)) from
    Mx.set (c := 0) ⟨((Below.refl w.heap.size w).alloc (Nat.le_refl _) _).alloc (by simp) _, World.rangeAt_alloc (World.rangeAt_alloc Hr.out _) _, World.there_alloc Ht0.out _, range_at (by simp) _ 86, Ht1.out⟩ HB.out)
  go_enter Tryz.func195, Tryz.ntmps195
  go_wp2_with (first
    | ((with_reducible refine al_zb 86 _ w.heap.size ?_ ?_ z86 ?_); (· exact ⟨rfl, rfl⟩); · (simp; done))
    | ((with_reducible refine al_zb 86 _ (w.heap.size + 1) ?_ ?_ z86 ?_); (· exact ⟨rfl, rfl⟩); · (simp; done))
    | ((with_reducible refine ld86 B 0 a ?_ ?_ ?_); (· exact ⟨rfl, _, rfl, rfl⟩); · exact (range_mm (World.rangeAt_alloc Hr.out _)).1)
    | ((with_reducible refine st86 (w.heap.size + 1) 0 a ?_ ?_ ?_); (· exact ⟨rfl, _, _, rfl, rfl, rfl⟩); · exact Ht1.out))
  go_loopw [6] (fun i wr => (i = .int .i64 1 ∧ Mx w B a b a wr) ∨ (i = .int .i64 2 ∧ Mx w B a b (min a b) wr)) (fun i _ => 2 - (intOf i).toNat)
  case atStart => exact Or.inl ⟨rfl, HM0.out⟩
  case round =>
    rcases hrel with ⟨rfl, hM⟩ | ⟨rfl, hM⟩
    · have hC := HC.out
      by_cases hlt : x < 0
      · have t1 : decide (x < 0) = true := by simpa using hlt
        have Hy := Lib.hid (show min a b = b by have := (cmp_neg Hx.out).1 hlt; omega)
        clear hlt
        go_wp2_with fail
        refine wp_region_held_drew (S := (fun w' => Below w.heap.size w w' ∧ w'.rangeAt B 0 (mgL a ++ mgL b) ∧ w'.there w.heap.size 0 30 ∧ w'.rangeAt (w.heap.size + 1) 0 (mgL a) ∧ w'.there (w.heap.size + 1) 0 30)) (by kernel_rfl) ?_ (fun hH => ?_)
        · exact ⟨hM.1.drew, hM.2.1, hM.2.2.1, hM.2.2.2.1, hM.2.2.2.2⟩
        try dsimp only at hH
        refine wpAnyH_take (i := 0) (v := (.func (.func 146) #[] #[])) rfl (by kernel_rfl) (by kernel_rfl) (by kernel_rfl) (fun _ _ _ h => h) (Or.inl ⟨by rfl, fun wz hz => by skip; go_simp⟩) hH ?_
        try simp only [Act.put, List.getElem_toArray, List.getElem_cons_zero, List.setIfInBounds_toArray, List.set_cons_zero, List.set_cons_succ]
        refine wpAnyH_take (i := 1) (v := (.slice (some ⟨B, 0, none⟩) 2 2)) rfl (by kernel_rfl) (by kernel_rfl) (by kernel_rfl) (fun _ _ _ h => h) (Or.inl ⟨by rfl, fun wz hz => by skip; go_simp⟩) hH ?_
        try simp only [Act.put, List.getElem_toArray, List.getElem_cons_succ, List.getElem_cons_zero, List.setIfInBounds_toArray, List.set_cons_zero, List.set_cons_succ]
        refine wpAnyH_take (i := 2) (v := (.int .i64 1)) rfl (by kernel_rfl) (by kernel_rfl) (by kernel_rfl) (fun _ _ _ h => h) (Or.inl ⟨by rfl, fun wz hz => by skip; go_simp⟩) hH ?_
        try simp only [Act.put, List.getElem_toArray, List.getElem_cons_succ, List.getElem_cons_zero, List.setIfInBounds_toArray, List.set_cons_zero, List.set_cons_succ]
        refine wpAnyH_take (i := 3) (v := (.pointer (some ⟨B, 30, none⟩))) rfl (by kernel_rfl) (by kernel_rfl) (by kernel_rfl) (fun _ _ _ h => h) (Or.inl ⟨by rfl, fun wz hz => by skip; go_simp⟩) hH ?_
        try simp only [Act.put, List.getElem_toArray, List.getElem_cons_succ, List.getElem_cons_zero, List.setIfInBounds_toArray, List.set_cons_zero, List.set_cons_succ]
        refine wpAnyH_take (i := 4) (v := (.agg (mgL b).toArray)) rfl (by kernel_rfl) (by kernel_rfl) (by kernel_rfl) (fun _ _ _ h => h) (yld86 B 30 b rfl ⟨_, rfl, rfl⟩ (fun wz hz => (range_mm hz.2.1).2)) hH ?_
        try simp only [Act.put, List.getElem_toArray, List.getElem_cons_succ, List.getElem_cons_zero, List.setIfInBounds_toArray, List.set_cons_zero, List.set_cons_succ]
        refine wpAnyH_take (i := 5) (v := (.agg (mgL a).toArray)) rfl (by kernel_rfl) (by kernel_rfl) (by kernel_rfl) (fun _ _ _ h => h) (yld86 (w.heap.size + 1) 0 a rfl ⟨_, rfl, rfl⟩ (fun wz hz => hz.2.2.2.1)) hH ?_
        try simp only [Act.put, List.getElem_toArray, List.getElem_cons_succ, List.getElem_cons_zero, List.setIfInBounds_toArray, List.set_cons_zero, List.set_cons_succ]
        refine wpAnyH_ready (rs := [6]) (by kernel_rfl) (by simp) ?_
        refine AllReadyH.cons rfl (fun K hK => ?_) AllReadyH.nil
        simp only [List.getElem_toArray, List.getElem_cons_succ, List.getElem_cons_zero]
        rw [if_pos (by rfl)]
        go_simp
        refine (hC _).mono ?_; rintro e w1 ⟨rfl, hb1⟩
        try simp only []
        refine hK.out _ _ ?_ (fun hH1 => ?_)
        · exact ⟨(hH.1).trans (hb1.mono (hH.1).size), range_keep hH.2.1 hb1, there_keep hH.2.2.1 hb1, range_keep hH.2.2.2.1 hb1, there_keep hH.2.2.2.2 hb1⟩
        clear hK K
        try simp only [Act.put, List.getElem_toArray, List.getElem_cons_succ, List.getElem_cons_zero, List.setIfInBounds_toArray, List.set_cons_zero, List.set_cons_succ]
        refine wpAnyH_take (i := 7) (v := (.bool true)) rfl (by kernel_rfl) (by kernel_rfl) (by kernel_rfl) (fun _ _ _ h => h) (Or.inl ⟨by rfl, fun wz hz => by skip; go_simp⟩) hH1 ?_
        try simp only [Act.put, List.getElem_toArray, List.getElem_cons_succ, List.getElem_cons_zero, List.setIfInBounds_toArray, List.set_cons_zero, List.set_cons_succ]
        refine wpAnyH_done (by kernel_rfl) ?_ _
        have HM := Lib.hid (show Mx w B a b a w1 from hH1)
        clear hM hH hH1 hb1 hC
        go_wp2_with (first
          | ((with_reducible refine ld86 B 30 b ?_ ?_ ?_); (· exact ⟨rfl, _, rfl, rfl⟩); · exact (range_mm HM.out.2.1).2)
          | ((with_reducible refine st86 (w.heap.size + 1) 0 b ?_ ?_ ?_); (· exact ⟨rfl, _, _, rfl, rfl, rfl⟩); · exact HM.out.2.2.2.2))
        go_roundw
        case rel => exact Or.inr ⟨rfl, by rw [Hy.out]; exact HM.out.set HB.out⟩
        case measure => simp [intOf]
      · have t1 : decide (x < 0) = false := by simpa using hlt
        have Hy := Lib.hid (show min a b = a by have := mt (cmp_neg Hx.out).2 hlt; omega)
        clear hlt
        go_wp2_with fail
        refine wp_region_held_drew (S := (fun w' => Below w.heap.size w w' ∧ w'.rangeAt B 0 (mgL a ++ mgL b) ∧ w'.there w.heap.size 0 30 ∧ w'.rangeAt (w.heap.size + 1) 0 (mgL a) ∧ w'.there (w.heap.size + 1) 0 30)) (by kernel_rfl) ?_ (fun hH => ?_)
        · exact ⟨hM.1.drew, hM.2.1, hM.2.2.1, hM.2.2.2.1, hM.2.2.2.2⟩
        try dsimp only at hH
        refine wpAnyH_take (i := 0) (v := (.func (.func 146) #[] #[])) rfl (by kernel_rfl) (by kernel_rfl) (by kernel_rfl) (fun _ _ _ h => h) (Or.inl ⟨by rfl, fun wz hz => by skip; go_simp⟩) hH ?_
        try simp only [Act.put, List.getElem_toArray, List.getElem_cons_zero, List.setIfInBounds_toArray, List.set_cons_zero, List.set_cons_succ]
        refine wpAnyH_take (i := 1) (v := (.slice (some ⟨B, 0, none⟩) 2 2)) rfl (by kernel_rfl) (by kernel_rfl) (by kernel_rfl) (fun _ _ _ h => h) (Or.inl ⟨by rfl, fun wz hz => by skip; go_simp⟩) hH ?_
        try simp only [Act.put, List.getElem_toArray, List.getElem_cons_succ, List.getElem_cons_zero, List.setIfInBounds_toArray, List.set_cons_zero, List.set_cons_succ]
        refine wpAnyH_take (i := 2) (v := (.int .i64 1)) rfl (by kernel_rfl) (by kernel_rfl) (by kernel_rfl) (fun _ _ _ h => h) (Or.inl ⟨by rfl, fun wz hz => by skip; go_simp⟩) hH ?_
        try simp only [Act.put, List.getElem_toArray, List.getElem_cons_succ, List.getElem_cons_zero, List.setIfInBounds_toArray, List.set_cons_zero, List.set_cons_succ]
        refine wpAnyH_take (i := 3) (v := (.pointer (some ⟨B, 30, none⟩))) rfl (by kernel_rfl) (by kernel_rfl) (by kernel_rfl) (fun _ _ _ h => h) (Or.inl ⟨by rfl, fun wz hz => by skip; go_simp⟩) hH ?_
        try simp only [Act.put, List.getElem_toArray, List.getElem_cons_succ, List.getElem_cons_zero, List.setIfInBounds_toArray, List.set_cons_zero, List.set_cons_succ]
        refine wpAnyH_take (i := 4) (v := (.agg (mgL b).toArray)) rfl (by kernel_rfl) (by kernel_rfl) (by kernel_rfl) (fun _ _ _ h => h) (yld86 B 30 b rfl ⟨_, rfl, rfl⟩ (fun wz hz => (range_mm hz.2.1).2)) hH ?_
        try simp only [Act.put, List.getElem_toArray, List.getElem_cons_succ, List.getElem_cons_zero, List.setIfInBounds_toArray, List.set_cons_zero, List.set_cons_succ]
        refine wpAnyH_take (i := 5) (v := (.agg (mgL a).toArray)) rfl (by kernel_rfl) (by kernel_rfl) (by kernel_rfl) (fun _ _ _ h => h) (yld86 (w.heap.size + 1) 0 a rfl ⟨_, rfl, rfl⟩ (fun wz hz => hz.2.2.2.1)) hH ?_
        try simp only [Act.put, List.getElem_toArray, List.getElem_cons_succ, List.getElem_cons_zero, List.setIfInBounds_toArray, List.set_cons_zero, List.set_cons_succ]
        refine wpAnyH_ready (rs := [6]) (by kernel_rfl) (by simp) ?_
        refine AllReadyH.cons rfl (fun K hK => ?_) AllReadyH.nil
        simp only [List.getElem_toArray, List.getElem_cons_succ, List.getElem_cons_zero]
        rw [if_pos (by rfl)]
        go_simp
        refine (hC _).mono ?_; rintro e w1 ⟨rfl, hb1⟩
        try simp only []
        refine hK.out _ _ ?_ (fun hH1 => ?_)
        · exact ⟨(hH.1).trans (hb1.mono (hH.1).size), range_keep hH.2.1 hb1, there_keep hH.2.2.1 hb1, range_keep hH.2.2.2.1 hb1, there_keep hH.2.2.2.2 hb1⟩
        clear hK K
        try simp only [Act.put, List.getElem_toArray, List.getElem_cons_succ, List.getElem_cons_zero, List.setIfInBounds_toArray, List.set_cons_zero, List.set_cons_succ]
        refine wpAnyH_take (i := 7) (v := (.bool false)) rfl (by kernel_rfl) (by kernel_rfl) (by kernel_rfl) (fun _ _ _ h => h) (Or.inl ⟨by rfl, fun wz hz => by skip; go_simp⟩) hH1 ?_
        try simp only [Act.put, List.getElem_toArray, List.getElem_cons_succ, List.getElem_cons_zero, List.setIfInBounds_toArray, List.set_cons_zero, List.set_cons_succ]
        refine wpAnyH_done (by kernel_rfl) ?_ _
        have HM := Lib.hid (show Mx w B a b a w1 from hH1)
        clear hM hH hH1 hb1 hC
        go_wp2
        go_roundw
        case rel => exact Or.inr ⟨rfl, by rw [Hy.out]; exact HM.out⟩
        case measure => simp [intOf]
    · have HM := Lib.hid hM
      clear hM
      go_wp2_with (first
        | ((with_reducible refine ld86 (w.heap.size + 1) 0 (min a b) ?_ ?_ ?_); (· exact ⟨rfl, _, rfl, rfl⟩); · exact HM.out.2.2.2.1)
        | ((with_reducible refine st86 w.heap.size 0 (min a b) ?_ ?_ ?_); (· exact ⟨rfl, _, _, rfl, rfl, rfl⟩); · exact HM.out.2.2.1))
      refine ret86 Tryz.results195 w.heap.size 0 rfl (min a b) (range_set HM.out.2.2.1 (by rw [mgL_len])) rfl ⟨rfl, ?_⟩
      exact below_set HM.out.1 (Nat.le_refl _) _ _
end Go.Proofs.YtpbegoflpfdajaaGreatDoor

namespace Go.Proofs.YtpbegoflpfdajaaGreatDoor
open Go.RowKit

set_option maxHeartbeats 1000000 in
/-- distance -/
theorem distance_any (a b : Nat) (ha : a < bb ^ 30) (hb : b < bb ^ 30) (w : World) :
    Calls Tryz.prog 147 #[.agg (mgL a).toArray, .agg (mgL b).toArray] w fun e w' => e = .returned (.agg (mgL (max a b - min a b)).toArray) ∧ Below w.heap.size w w' := by
  have Ha := Lib.hid ha; have Hb := Lib.hid hb; clear ha hb
  have HB := Lib.hid (show Below w.heap.size w ((((w.alloc (.cells (mgL a).toArray 86)).alloc (.cells (mgL b).toArray 86)).alloc (.cells (mgL 0).toArray 86)).alloc (.cells (mgL a ++ mgL b).toArray 86)) from ((((Below.refl w.heap.size w).alloc (Nat.le_refl _) _).alloc (by simp) _).alloc (by simp; omega) _).alloc (by simp; omega) _)
  have Ht := Lib.hid (show ((((w.alloc (.cells (mgL a).toArray 86)).alloc (.cells (mgL b).toArray 86)).alloc (.cells (mgL 0).toArray 86)).alloc (.cells (mgL a ++ mgL b).toArray 86)).there (w.heap.size + 2) 0 30 from World.there_alloc (there_at (by simp) _ 86 (by rw [mgL_len])) _)
  have Hr := Lib.hid (show ((((w.alloc (.cells (mgL a).toArray 86)).alloc (.cells (mgL b).toArray 86)).alloc (.cells (mgL 0).toArray 86)).alloc (.cells (mgL a ++ mgL b).toArray 86)).rangeAt (w.heap.size + 3) 0 (mgL a ++ mgL b) from range_at (by simp) _ 86)
  have Hs := Lib.hid (show w.heap.size + 3 < ((((w.alloc (.cells (mgL a).toArray 86)).alloc (.cells (mgL b).toArray 86)).alloc (.cells (mgL 0).toArray 86)).alloc (.cells (mgL a ++ mgL b).toArray 86)).heap.size by simp)
  have Hle := Lib.hid (show min a b ≤ max a b by omega)
  go_enter Tryz.func147, Tryz.ntmps147
  go_wp2_with (first
    | ((with_reducible refine al_zb 86 _ (w.heap.size + 2) ?_ ?_ z86 ?_); (· exact ⟨rfl, rfl⟩); · (simp; done))
    | ((with_reducible refine ld86 w.heap.size 0 a ?_ ?_ ?_); (· exact ⟨rfl, _, rfl, rfl⟩); · exact World.rangeAt_alloc (World.rangeAt_alloc (range_new w _ 86) _) _)
    | ((with_reducible refine ld86 (w.heap.size + 1) 0 b ?_ ?_ ?_); (· exact ⟨rfl, _, rfl, rfl⟩); · exact World.rangeAt_alloc (range_at (by simp) _ 86) _)
    | ((with_reducible refine bs197 a b (w.heap.size + 3) ?_ ?_ ?_); (· exact ⟨rfl, _, _, rfl, rfl, rfl⟩); · (simp; done))
    | (go_at_call 194; (with_reducible refine (maxF_any a b (w.heap.size + 3) Ha.out Hb.out _ Hs.out Hr.out).mono ?_); rintro e w1 ⟨rfl, hb1⟩; have HB1 := Lib.hid hb1; clear hb1)
    | (go_at_call 195; (with_reducible refine (minF_any a b (w.heap.size + 3) Ha.out Hb.out _ (Nat.lt_of_lt_of_le Hs.out HB1.out.size) (range_keep Hr.out HB1.out)).mono ?_); rintro e w2 ⟨rfl, hb2⟩; have HB2 := Lib.hid hb2; clear hb2)
    | (go_at_call 155; (with_reducible refine (minus_any (max a b) (min a b) Hle.out _).mono ?_); rintro e w3 ⟨rfl, hb3⟩; have HB3 := Lib.hid hb3; clear hb3)
    | ((with_reducible refine st86 (w.heap.size + 2) 0 (max a b - min a b) ?_ ?_ ?_); (· exact ⟨rfl, _, _, rfl, rfl, rfl⟩); · exact there_keep (there_keep (there_keep Ht.out HB1.out) HB2.out) HB3.out))

  refine ret86 Tryz.results147 (w.heap.size + 2) 0 rfl (max a b - min a b) (range_set (there_keep (there_keep (there_keep Ht.out HB1.out) HB2.out) HB3.out) (by rw [mgL_len])) rfl ⟨rfl, ?_⟩
  have q1 := HB.out.trans (HB1.out.mono HB.out.size)
  have q2 := q1.trans (HB2.out.mono q1.size)
  have q3 := q2.trans (HB3.out.mono q2.size)
  exact below_set q3 (by omega) _ _
end Go.Proofs.YtpbegoflpfdajaaGreatDoor

/- WHAT IS PROVED: contracts of functions of the numbers package and laws for them, used by the last text of this claim. CONDITIONS: stated at each theorem. -/
import Derived.Test.YtpbegoflpfdajaaGreatDoorB06
namespace Go.Proofs.YtpbegoflpfdajaaGreatDoor
section
open Go.RowKit
set_option maxHeartbeats 1000000 in
theorem distance_any (a b : Nat) (ha : a < bb ^ 30) (hb : b < bb ^ 30) (w : World) :
    Calls Tryz.prog 147 #[.agg (mgL a).toArray,.agg (mgL b).toArray] w fun e w'=>e = .returned (.agg (mgL (max a b - min a b)).toArray)/\Below w.heap.size w w':=by
  have Ha:=Lib.hid ha;have Hb:=Lib.hid hb;clear ha hb
  have HB:=Lib.hid (show Below w.heap.size w ((((w.alloc (.cells (mgL a).toArray 86)).alloc (.cells (mgL b).toArray 86)).alloc (.cells (mgL 0).toArray 86)).alloc (.cells (mgL a ++ mgL b).toArray 86)) from ((((Below.refl w.heap.size w).alloc (Nat.le_refl _) _).alloc (by simp) _).alloc (by simp;omega) _).alloc (by simp;omega) _)
  have Ht:=Lib.hid (show ((((w.alloc (.cells (mgL a).toArray 86)).alloc (.cells (mgL b).toArray 86)).alloc (.cells (mgL 0).toArray 86)).alloc (.cells (mgL a ++ mgL b).toArray 86)).there (w.heap.size + 2) 0 30 from World.there_alloc (there_at (by simp) _ 86 (by rw [mgL_len])) _)
  have Hr:=Lib.hid (show ((((w.alloc (.cells (mgL a).toArray 86)).alloc (.cells (mgL b).toArray 86)).alloc (.cells (mgL 0).toArray 86)).alloc (.cells (mgL a ++ mgL b).toArray 86)).rangeAt (w.heap.size + 3) 0 (mgL a ++ mgL b) from range_at (by simp) _ 86)
  have Hs:=Lib.hid (show w.heap.size + 3 < ((((w.alloc (.cells (mgL a).toArray 86)).alloc (.cells (mgL b).toArray 86)).alloc (.cells (mgL 0).toArray 86)).alloc (.cells (mgL a ++ mgL b).toArray 86)).heap.size by simp)
  have Hle:=Lib.hid (show min a b <= max a b by omega)
  go_enter Tryz.func147,Tryz.ntmps147
  go_wp2_with (first
    | ((with_reducible refine al_zb 86 _ (w.heap.size + 2) ?_ ?_ z86 ?_);(· exact ⟨rfl,rfl⟩);· (simp;done))
    | ((with_reducible refine ld86 w.heap.size 0 a ?_ ?_ ?_);(· exact ⟨rfl,_,rfl,rfl⟩);· exact World.rangeAt_alloc (World.rangeAt_alloc (range_new w _ 86) _) _)
    | ((with_reducible refine ld86 (w.heap.size + 1) 0 b ?_ ?_ ?_);(· exact ⟨rfl,_,rfl,rfl⟩);· exact World.rangeAt_alloc (range_at (by simp) _ 86) _)
    | ((with_reducible refine bs197 a b (w.heap.size + 3) ?_ ?_ ?_);(· exact ⟨rfl,_,_,rfl,rfl,rfl⟩);· (simp;done))
    | (go_at_call 194;(with_reducible refine (maxF_any a b (w.heap.size + 3) Ha.out Hb.out _ Hs.out Hr.out).mono ?_);rintro e w1 ⟨rfl,hb1⟩;have HB1:=Lib.hid hb1;clear hb1)
    | (go_at_call 195;(with_reducible refine (minF_any a b (w.heap.size + 3) Ha.out Hb.out _ (Nat.lt_of_lt_of_le Hs.out HB1.out.size) (range_keep Hr.out HB1.out)).mono ?_);rintro e w2 ⟨rfl,hb2⟩;have HB2:=Lib.hid hb2;clear hb2)
    | (go_at_call 155;(with_reducible refine (minus_any (max a b) (min a b) Hle.out _).mono ?_);rintro e w3 ⟨rfl,hb3⟩;have HB3:=Lib.hid hb3;clear hb3)
    | ((with_reducible refine st86 (w.heap.size + 2) 0 (max a b - min a b) ?_ ?_ ?_);(· exact ⟨rfl,_,_,rfl,rfl,rfl⟩);· exact there_keep (there_keep (there_keep Ht.out HB1.out) HB2.out) HB3.out))
  refine ret86 Tryz.results147 (w.heap.size + 2) 0 rfl (max a b - min a b) (range_set (there_keep (there_keep (there_keep Ht.out HB1.out) HB2.out) HB3.out) (by rw [mgL_len])) rfl ⟨rfl,?_⟩
  have q1:=HB.out.trans (HB1.out.mono HB.out.size)
  have q2:=q1.trans (HB2.out.mono q1.size)
  have q3:=q2.trans (HB3.out.mono q2.size)
  exact below_set q3 (by omega) _ _
end
section
open Go.RowKit
set_option maxHeartbeats 2000000 in
theorem plusS_same (n1 n2 : Nat) (s1 s2 : Bool) (hs : s1 = s2) (h1 : n1 + n2 < bb ^ 30) (w : World) :
    Calls Tryz.prog 78 #[.agg (sgL n1 s1).toArray,.agg (sgL n2 s2).toArray] w fun e w'=>e = .returned (.agg (sgL (n1 + n2) (s1 && !decide (n1 + n2 = 0))).toArray)/\Below w.heap.size w w':=by
  have hs' : (s1 == s2) = true:=by simpa using hs
  have H1:=Lib.hid h1;clear h1 hs
  have c1 : (sgL n1 s1)[30]? = some (.bool s1):=sgL_get
  have c2 : (sgL n2 s2)[30]? = some (.bool s2):=sgL_get
  have Hb:=Lib.hid (show Below w.heap.size w (((w.alloc (.cells (sgL n1 s1).toArray 88)).alloc (.cells (sgL n2 s2).toArray 88)).alloc (.cells (sgL 0 false).toArray 88)) from (((Below.refl w.heap.size w).alloc (Nat.le_refl _) _).alloc (by simp) _).alloc (by simp;omega) _)
  have Hr1:=Lib.hid (show (((w.alloc (.cells (sgL n1 s1).toArray 88)).alloc (.cells (sgL n2 s2).toArray 88)).alloc (.cells (sgL 0 false).toArray 88)).rangeAt w.heap.size 0 (sgL n1 s1) from World.rangeAt_alloc (World.rangeAt_alloc (range_new w _ 88) _) _)
  have Hr2:=Lib.hid (show (((w.alloc (.cells (sgL n1 s1).toArray 88)).alloc (.cells (sgL n2 s2).toArray 88)).alloc (.cells (sgL 0 false).toArray 88)).rangeAt (w.heap.size + 1) 0 (sgL n2 s2) from World.rangeAt_alloc (range_at (by simp) _ 88) _)
  have Ht:=Lib.hid (show (((w.alloc (.cells (sgL n1 s1).toArray 88)).alloc (.cells (sgL n2 s2).toArray 88)).alloc (.cells (sgL 0 false).toArray 88)).there (w.heap.size + 2) 0 31 from there_at (by simp) _ 88 (by rw [sgL_len]))
  go_enter Tryz.func78,Tryz.ntmps78
  go_wp2_with (first
    | ((with_reducible refine al_zb 88 _ (w.heap.size + 2) ?_ ?_ z88 ?_);(· exact ⟨rfl,rfl⟩);· (simp;done)))
  refine wp_region_held_drew (S:=(fun w'=>Below w.heap.size w w'/\w'.rangeAt w.heap.size 0 (sgL n1 s1)/\w'.rangeAt (w.heap.size + 1) 0 (sgL n2 s2)/\w'.there (w.heap.size + 2) 0 31)) (by kernel_rfl) ?_ (fun hH=>?_)
  · exact ⟨Hb.out.drew,Hr1.out,Hr2.out,Ht.out⟩
  try dsimp only at hH
  refine wpAnyH_take (i:=0) (v:=(.pointer (some ⟨w.heap.size,0,none⟩))) rfl (by kernel_rfl) (by kernel_rfl) (by kernel_rfl) (fun _ _ _ h=>h) (Or.inl ⟨by rfl,fun wz hz=>by skip;go_simp⟩) hH ?_
  try simp only [Act.put,List.getElem_toArray,List.getElem_cons_zero,List.setIfInBounds_toArray,List.set_cons_zero,List.set_cons_succ]
  refine wpAnyH_take (i:=1) (v:=(.agg (mgL n1).toArray)) rfl (by kernel_rfl) (by kernel_rfl) (by kernel_rfl) (fun _ _ _ h=>h) (yld86 w.heap.size 0 n1 rfl ⟨_,rfl,rfl⟩ (fun wz hz=>(range_sg hz.2.1).1)) hH ?_
  try simp only [Act.put,List.getElem_toArray,List.getElem_cons_succ,List.getElem_cons_zero,List.setIfInBounds_toArray,List.set_cons_zero,List.set_cons_succ]
  refine wpAnyH_take (i:=2) (v:=(.pointer (some ⟨(w.heap.size + 1),0,none⟩))) rfl (by kernel_rfl) (by kernel_rfl) (by kernel_rfl) (fun _ _ _ h=>h) (Or.inl ⟨by rfl,fun wz hz=>by skip;go_simp⟩) hH ?_
  try simp only [Act.put,List.getElem_toArray,List.getElem_cons_succ,List.getElem_cons_zero,List.setIfInBounds_toArray,List.set_cons_zero,List.set_cons_succ]
  refine wpAnyH_take (i:=3) (v:=(.agg (mgL n2).toArray)) rfl (by kernel_rfl) (by kernel_rfl) (by kernel_rfl) (fun _ _ _ h=>h) (yld86 (w.heap.size + 1) 0 n2 rfl ⟨_,rfl,rfl⟩ (fun wz hz=>(range_sg hz.2.2.1).1)) hH ?_
  try simp only [Act.put,List.getElem_toArray,List.getElem_cons_succ,List.getElem_cons_zero,List.setIfInBounds_toArray,List.set_cons_zero,List.set_cons_succ]
  refine wpAnyH_take (i:=5) (v:=(.pointer (some ⟨w.heap.size,30,none⟩))) rfl (by kernel_rfl) (by kernel_rfl) (by kernel_rfl) (fun _ _ _ h=>h) (Or.inl ⟨by rfl,fun wz hz=>by skip;go_simp⟩) hH ?_
  try simp only [Act.put,List.getElem_toArray,List.getElem_cons_succ,List.getElem_cons_zero,List.setIfInBounds_toArray,List.set_cons_zero,List.set_cons_succ]
  refine wpAnyH_take (i:=6) (v:=(.bool s1)) rfl (by kernel_rfl) (by kernel_rfl) (by kernel_rfl) (fun _ _ _ h=>h) (Or.inl ⟨by rfl,fun wz hz=>by have hc:=cell_sg hz.2.1;go_simp⟩) hH ?_
  try simp only [Act.put,List.getElem_toArray,List.getElem_cons_succ,List.getElem_cons_zero,List.setIfInBounds_toArray,List.set_cons_zero,List.set_cons_succ]
  refine wpAnyH_ready (rs:=[4]) (by kernel_rfl) (by simp) ?_
  refine AllReadyH.cons rfl (fun K hK=>?_) AllReadyH.nil
  simp only [List.getElem_toArray,List.getElem_cons_succ,List.getElem_cons_zero]
  rw [if_pos (by rfl)]
  go_simp
  refine (plus_any n1 n2 H1.out _).mono ?_;rintro e w1 ⟨rfl,hb1⟩
  try simp only []
  refine hK.out _ _ ?_ (fun hH1=>?_)
  · exact ⟨(hH.1).trans (hb1.mono (hH.1).size),range_keep hH.2.1 hb1,range_keep hH.2.2.1 hb1,there_keep hH.2.2.2 hb1⟩
  clear hK K
  try simp only [Act.put,List.getElem_toArray,List.getElem_cons_succ,List.getElem_cons_zero,List.setIfInBounds_toArray,List.set_cons_zero,List.set_cons_succ]
  refine wpAnyH_ready (rs:=[7]) (by kernel_rfl) (by simp) ?_
  refine AllReadyH.cons rfl (fun K hK=>?_) AllReadyH.nil
  simp only [List.getElem_toArray,List.getElem_cons_succ,List.getElem_cons_zero]
  rw [if_pos (by rfl)]
  go_simp
  refine (number_any (n1 + n2) s1 H1.out _).mono ?_;rintro e w2 ⟨rfl,hb2⟩
  try simp only []
  refine hK.out _ _ ?_ (fun hH2=>?_)
  · exact ⟨(hH1.1).trans (hb2.mono (hH1.1).size),range_keep hH1.2.1 hb2,range_keep hH1.2.2.1 hb2,there_keep hH1.2.2.2 hb2⟩
  clear hK K
  try simp only [Act.put,List.getElem_toArray,List.getElem_cons_succ,List.getElem_cons_zero,List.setIfInBounds_toArray,List.set_cons_zero,List.set_cons_succ]
  refine wpAnyH_ready (rs:=[8]) (by kernel_rfl) (by simp) ?_
  refine AllReadyH.cons rfl (fun K hK=>?_) AllReadyH.nil
  simp only [List.getElem_toArray,List.getElem_cons_succ,List.getElem_cons_zero]
  rw [if_pos (by rfl)]
  with_reducible refine wst88 (w.heap.size + 2) 0 (n1 + n2) (s1 && !decide (n1 + n2 = 0)) ?_ hH2.2.2.2 ?_
  · exact ⟨_,_,rfl,rfl,rfl⟩
  refine hK.out _ _ ?_ (fun hH3=>?_)
  · exact ⟨below_set hH2.1 (by omega) _ _,range_setk hH2.2.1 (by first | trivial | omega),range_setk hH2.2.2.1 (by first | trivial | omega),there_setk hH2.2.2.2 (by first | trivial | omega)⟩
  clear hK K
  try simp only [Act.put]
  refine wpAnyH_done (by kernel_rfl) ?_ _
  go_wp2
  refine ret88 Tryz.results78 (w.heap.size + 2) 0 rfl (n1 + n2) (s1 && !decide (n1 + n2 = 0)) (range_set hH2.2.2.2 (by rw [sgL_len])) rfl ⟨rfl,hH3.1⟩
set_option maxHeartbeats 4000000 in
theorem plusS_ge (n1 n2 : Nat) (s1 s2 : Bool) (hs : s1 ≠ s2) (hc : n2 <= n1) (h1 : n1 < bb ^ 30) (h2 : n2 < bb ^ 30) (w : World) :
    Calls Tryz.prog 78 #[.agg (sgL n1 s1).toArray,.agg (sgL n2 s2).toArray] w fun e w'=>e = .returned (.agg (sgL (max n1 n2 - min n1 n2) (s1 && !decide (max n1 n2 - min n1 n2 = 0))).toArray)/\Below w.heap.size w w':=by
  have hs' : (s1 == s2) = false:=by simpa using hs
  have H1:=Lib.hid h1;have H2:=Lib.hid h2
  have H3:=Lib.hid (show max n1 n2 - min n1 n2 < bb ^ 30 by omega)
  have Hmx:=Lib.hid (show max n2 n1 - min n2 n1 = max n1 n2 - min n1 n2 by omega)
  have hC:=fun w=>compare_any n1 n2 h1 h2 w
  obtain ⟨x,hx⟩ : ∃ x,cmpN n1 n2 = x:=⟨_,rfl⟩
  rw [hx] at hC
  have t1 : decide (x < 0) = false:=by simpa [cmp_neg hx] using hc
  have HC:=Lib.hid hC
  clear h1 h2 hs hx hC hc
  have c1 : (sgL n1 s1)[30]? = some (.bool s1):=sgL_get
  have c2 : (sgL n2 s2)[30]? = some (.bool s2):=sgL_get
  have Hb:=Lib.hid (show Below w.heap.size w (((w.alloc (.cells (sgL n1 s1).toArray 88)).alloc (.cells (sgL n2 s2).toArray 88)).alloc (.cells (sgL 0 false).toArray 88)) from (((Below.refl w.heap.size w).alloc (Nat.le_refl _) _).alloc (by simp) _).alloc (by simp;omega) _)
  have Hr1:=Lib.hid (show (((w.alloc (.cells (sgL n1 s1).toArray 88)).alloc (.cells (sgL n2 s2).toArray 88)).alloc (.cells (sgL 0 false).toArray 88)).rangeAt w.heap.size 0 (sgL n1 s1) from World.rangeAt_alloc (World.rangeAt_alloc (range_new w _ 88) _) _)
  have Hr2:=Lib.hid (show (((w.alloc (.cells (sgL n1 s1).toArray 88)).alloc (.cells (sgL n2 s2).toArray 88)).alloc (.cells (sgL 0 false).toArray 88)).rangeAt (w.heap.size + 1) 0 (sgL n2 s2) from World.rangeAt_alloc (range_at (by simp) _ 88) _)
  have Ht:=Lib.hid (show (((w.alloc (.cells (sgL n1 s1).toArray 88)).alloc (.cells (sgL n2 s2).toArray 88)).alloc (.cells (sgL 0 false).toArray 88)).there (w.heap.size + 2) 0 31 from there_at (by simp) _ 88 (by rw [sgL_len]))
  go_enter Tryz.func78,Tryz.ntmps78
  go_wp2_with (first
    | ((with_reducible refine al_zb 88 _ (w.heap.size + 2) ?_ ?_ z88 ?_);(· exact ⟨rfl,rfl⟩);· (simp;done))
    | ((with_reducible refine ld86 w.heap.size 0 n1 ?_ ?_ ?_);(· exact ⟨rfl,_,rfl,rfl⟩);· exact (range_sg Hr1.out).1)
    | ((with_reducible refine ld86 (w.heap.size + 1) 0 n2 ?_ ?_ ?_);(· exact ⟨rfl,_,rfl,rfl⟩);· exact (range_sg Hr2.out).1)
    | (go_at_call 146;(with_reducible refine (HC.out _).mono ?_);rintro e w1 ⟨rfl,hb1⟩;have HB1:=Lib.hid hb1;clear hb1))
  refine wp_region_held_drew (S:=(fun w'=>Below w.heap.size w w'/\w'.rangeAt w.heap.size 0 (sgL n1 s1)/\w'.rangeAt (w.heap.size + 1) 0 (sgL n2 s2)/\w'.there (w.heap.size + 2) 0 31)) (by kernel_rfl) ?_ (fun hH=>?_)
  · exact ⟨(Hb.out.trans (HB1.out.mono Hb.out.size)).drew,range_keep Hr1.out HB1.out.drew,range_keep Hr2.out HB1.out.drew,there_keep Ht.out HB1.out.drew⟩
  try dsimp only at hH
  refine wpAnyH_take (i:=0) (v:=(.pointer (some ⟨w.heap.size,0,none⟩))) rfl (by kernel_rfl) (by kernel_rfl) (by kernel_rfl) (fun _ _ _ h=>h) (Or.inl ⟨by rfl,fun wz hz=>by skip;go_simp⟩) hH ?_
  try simp only [Act.put,List.getElem_toArray,List.getElem_cons_zero,List.setIfInBounds_toArray,List.set_cons_zero,List.set_cons_succ]
  refine wpAnyH_take (i:=1) (v:=(.agg (mgL n1).toArray)) rfl (by kernel_rfl) (by kernel_rfl) (by kernel_rfl) (fun _ _ _ h=>h) (yld86 w.heap.size 0 n1 rfl ⟨_,rfl,rfl⟩ (fun wz hz=>(range_sg hz.2.1).1)) hH ?_
  try simp only [Act.put,List.getElem_toArray,List.getElem_cons_succ,List.getElem_cons_zero,List.setIfInBounds_toArray,List.set_cons_zero,List.set_cons_succ]
  refine wpAnyH_take (i:=2) (v:=(.pointer (some ⟨(w.heap.size + 1),0,none⟩))) rfl (by kernel_rfl) (by kernel_rfl) (by kernel_rfl) (fun _ _ _ h=>h) (Or.inl ⟨by rfl,fun wz hz=>by skip;go_simp⟩) hH ?_
  try simp only [Act.put,List.getElem_toArray,List.getElem_cons_succ,List.getElem_cons_zero,List.setIfInBounds_toArray,List.set_cons_zero,List.set_cons_succ]
  refine wpAnyH_take (i:=3) (v:=(.agg (mgL n2).toArray)) rfl (by kernel_rfl) (by kernel_rfl) (by kernel_rfl) (fun _ _ _ h=>h) (yld86 (w.heap.size + 1) 0 n2 rfl ⟨_,rfl,rfl⟩ (fun wz hz=>(range_sg hz.2.2.1).1)) hH ?_
  try simp only [Act.put,List.getElem_toArray,List.getElem_cons_succ,List.getElem_cons_zero,List.setIfInBounds_toArray,List.set_cons_zero,List.set_cons_succ]
  refine wpAnyH_take (i:=5) (v:=(.pointer (some ⟨w.heap.size,30,none⟩))) rfl (by kernel_rfl) (by kernel_rfl) (by kernel_rfl) (fun _ _ _ h=>h) (Or.inl ⟨by rfl,fun wz hz=>by skip;go_simp⟩) hH ?_
  try simp only [Act.put,List.getElem_toArray,List.getElem_cons_succ,List.getElem_cons_zero,List.setIfInBounds_toArray,List.set_cons_zero,List.set_cons_succ]
  refine wpAnyH_take (i:=6) (v:=(.bool s1)) rfl (by kernel_rfl) (by kernel_rfl) (by kernel_rfl) (fun _ _ _ h=>h) (Or.inl ⟨by rfl,fun wz hz=>by have hc:=cell_sg hz.2.1;go_simp⟩) hH ?_
  try simp only [Act.put,List.getElem_toArray,List.getElem_cons_succ,List.getElem_cons_zero,List.setIfInBounds_toArray,List.set_cons_zero,List.set_cons_succ]
  refine wpAnyH_ready (rs:=[4]) (by kernel_rfl) (by simp) ?_
  refine AllReadyH.cons rfl (fun K hK=>?_) AllReadyH.nil
  simp only [List.getElem_toArray,List.getElem_cons_succ,List.getElem_cons_zero]
  rw [if_pos (by rfl)]
  go_simp
  refine (distance_any n1 n2 H1.out H2.out _).mono ?_;rintro e w1 ⟨rfl,hb1⟩
  try simp only []
  refine hK.out _ _ ?_ (fun hH1=>?_)
  · exact ⟨(hH.1).trans (hb1.mono (hH.1).size),range_keep hH.2.1 hb1,range_keep hH.2.2.1 hb1,there_keep hH.2.2.2 hb1⟩
  clear hK K
  try simp only [Act.put,List.getElem_toArray,List.getElem_cons_succ,List.getElem_cons_zero,List.setIfInBounds_toArray,List.set_cons_zero,List.set_cons_succ]
  refine wpAnyH_ready (rs:=[7]) (by kernel_rfl) (by simp) ?_
  refine AllReadyH.cons rfl (fun K hK=>?_) AllReadyH.nil
  simp only [List.getElem_toArray,List.getElem_cons_succ,List.getElem_cons_zero]
  rw [if_pos (by rfl)]
  go_simp
  refine (number_any (max n1 n2 - min n1 n2) s1 H3.out _).mono ?_;rintro e w2 ⟨rfl,hb2⟩
  try simp only []
  refine hK.out _ _ ?_ (fun hH2=>?_)
  · exact ⟨(hH1.1).trans (hb2.mono (hH1.1).size),range_keep hH1.2.1 hb2,range_keep hH1.2.2.1 hb2,there_keep hH1.2.2.2 hb2⟩
  clear hK K
  try simp only [Act.put,List.getElem_toArray,List.getElem_cons_succ,List.getElem_cons_zero,List.setIfInBounds_toArray,List.set_cons_zero,List.set_cons_succ]
  refine wpAnyH_ready (rs:=[8]) (by kernel_rfl) (by simp) ?_
  refine AllReadyH.cons rfl (fun K hK=>?_) AllReadyH.nil
  simp only [List.getElem_toArray,List.getElem_cons_succ,List.getElem_cons_zero]
  rw [if_pos (by rfl)]
  with_reducible refine wst88 (w.heap.size + 2) 0 (max n1 n2 - min n1 n2) (s1 && !decide (max n1 n2 - min n1 n2 = 0)) ?_ hH2.2.2.2 ?_
  · exact ⟨_,_,rfl,rfl,rfl⟩
  refine hK.out _ _ ?_ (fun hH3=>?_)
  · exact ⟨below_set hH2.1 (by omega) _ _,range_setk hH2.2.1 (by first | trivial | omega),range_setk hH2.2.2.1 (by first | trivial | omega),there_setk hH2.2.2.2 (by first | trivial | omega)⟩
  clear hK K
  try simp only [Act.put]
  refine wpAnyH_done (by kernel_rfl) ?_ _
  go_wp2
  refine ret88 Tryz.results78 (w.heap.size + 2) 0 rfl (max n1 n2 - min n1 n2) (s1 && !decide (max n1 n2 - min n1 n2 = 0)) (range_set hH2.2.2.2 (by rw [sgL_len])) rfl ⟨rfl,hH3.1⟩
set_option maxHeartbeats 4000000 in
theorem plusS_lt (n1 n2 : Nat) (s1 s2 : Bool) (hs : s1 ≠ s2) (hc : n1 < n2) (h1 : n1 < bb ^ 30) (h2 : n2 < bb ^ 30) (w : World) :
    Calls Tryz.prog 78 #[.agg (sgL n1 s1).toArray,.agg (sgL n2 s2).toArray] w fun e w'=>e = .returned (.agg (sgL (max n1 n2 - min n1 n2) (s2 && !decide (max n1 n2 - min n1 n2 = 0))).toArray)/\Below w.heap.size w w':=by
  have hs' : (s1 == s2) = false:=by simpa using hs
  have H1:=Lib.hid h1;have H2:=Lib.hid h2
  have H3:=Lib.hid (show max n1 n2 - min n1 n2 < bb ^ 30 by omega)
  have Hmx:=Lib.hid (show max n2 n1 - min n2 n1 = max n1 n2 - min n1 n2 by omega)
  have hC:=fun w=>compare_any n1 n2 h1 h2 w
  obtain ⟨x,hx⟩ : ∃ x,cmpN n1 n2 = x:=⟨_,rfl⟩
  rw [hx] at hC
  have t1 : decide (x < 0) = true:=by simpa [cmp_neg hx] using hc
  have HC:=Lib.hid hC
  clear h1 h2 hs hx hC hc
  have c1 : (sgL n1 s1)[30]? = some (.bool s1):=sgL_get
  have c2 : (sgL n2 s2)[30]? = some (.bool s2):=sgL_get
  have Hb:=Lib.hid (show Below w.heap.size w (((w.alloc (.cells (sgL n1 s1).toArray 88)).alloc (.cells (sgL n2 s2).toArray 88)).alloc (.cells (sgL 0 false).toArray 88)) from (((Below.refl w.heap.size w).alloc (Nat.le_refl _) _).alloc (by simp) _).alloc (by simp;omega) _)
  have Hr1:=Lib.hid (show (((w.alloc (.cells (sgL n1 s1).toArray 88)).alloc (.cells (sgL n2 s2).toArray 88)).alloc (.cells (sgL 0 false).toArray 88)).rangeAt w.heap.size 0 (sgL n1 s1) from World.rangeAt_alloc (World.rangeAt_alloc (range_new w _ 88) _) _)
  have Hr2:=Lib.hid (show (((w.alloc (.cells (sgL n1 s1).toArray 88)).alloc (.cells (sgL n2 s2).toArray 88)).alloc (.cells (sgL 0 false).toArray 88)).rangeAt (w.heap.size + 1) 0 (sgL n2 s2) from World.rangeAt_alloc (range_at (by simp) _ 88) _)
  have Ht:=Lib.hid (show (((w.alloc (.cells (sgL n1 s1).toArray 88)).alloc (.cells (sgL n2 s2).toArray 88)).alloc (.cells (sgL 0 false).toArray 88)).there (w.heap.size + 2) 0 31 from there_at (by simp) _ 88 (by rw [sgL_len]))
  have Ht1:=Lib.hid (show (((w.alloc (.cells (sgL n1 s1).toArray 88)).alloc (.cells (sgL n2 s2).toArray 88)).alloc (.cells (sgL 0 false).toArray 88)).there w.heap.size 0 31 from World.there_alloc (World.there_alloc (there_new w _ 88 31 (by rw [sgL_len])) _) _)
  have Ht2:=Lib.hid (show (((w.alloc (.cells (sgL n1 s1).toArray 88)).alloc (.cells (sgL n2 s2).toArray 88)).alloc (.cells (sgL 0 false).toArray 88)).there (w.heap.size + 1) 0 31 from World.there_alloc (there_at (by simp) _ 88 (by rw [sgL_len])) _)
  go_enter Tryz.func78,Tryz.ntmps78
  go_wp2_with (first
    | ((with_reducible refine al_zb 88 _ (w.heap.size + 2) ?_ ?_ z88 ?_);(· exact ⟨rfl,rfl⟩);· (simp;done))
    | ((with_reducible refine ld86 w.heap.size 0 n1 ?_ ?_ ?_);(· exact ⟨rfl,_,rfl,rfl⟩);· exact (range_sg Hr1.out).1)
    | ((with_reducible refine ld86 (w.heap.size + 1) 0 n2 ?_ ?_ ?_);(· exact ⟨rfl,_,rfl,rfl⟩);· exact (range_sg Hr2.out).1)
    | (go_at_call 146;(with_reducible refine (HC.out _).mono ?_);rintro e w1 ⟨rfl,hb1⟩;have HB1:=Lib.hid hb1;clear hb1)
    | ((with_reducible refine ld88 (w.heap.size + 1) 0 n2 s2 ?_ ?_ ?_);(· exact ⟨rfl,_,rfl,rfl⟩);· exact (range_keep Hr2.out HB1.out))
    | ((with_reducible refine ld88 w.heap.size 0 n1 s1 ?_ ?_ ?_);(· exact ⟨rfl,_,rfl,rfl⟩);· exact (range_keep Hr1.out HB1.out))
    | ((with_reducible refine st88 w.heap.size 0 n2 s2 ?_ ?_ ?_);(· exact ⟨rfl,_,_,rfl,rfl,rfl⟩);· exact (there_keep Ht1.out HB1.out))
    | ((with_reducible refine st88 (w.heap.size + 1) 0 n1 s1 ?_ ?_ ?_);(· exact ⟨rfl,_,_,rfl,rfl,rfl⟩);· exact (World.there_setCells (there_keep Ht2.out HB1.out) _ _ _)))
  have HBq:=Lib.hid (Hb.out.trans (HB1.out.mono Hb.out.size))
  refine wp_region_held_drew (S:=(fun w'=>Below w.heap.size w w'/\w'.rangeAt w.heap.size 0 (sgL n2 s2)/\w'.rangeAt (w.heap.size + 1) 0 (sgL n1 s1)/\w'.there (w.heap.size + 2) 0 31)) (by kernel_rfl) ?_ (fun hH=>?_)
  · exact ⟨(below_set (below_set HBq.out (Nat.le_refl _) _ _) (by omega) _ _).drew,range_setk (range_set (there_keep Ht1.out HB1.out) (by rw [sgL_len])) (by omega),range_set (World.there_setCells (there_keep Ht2.out HB1.out) _ _ _) (by rw [sgL_len]),World.there_setCells (World.there_setCells (there_keep Ht.out HB1.out) _ _ _) _ _ _⟩
  try dsimp only at hH
  refine wpAnyH_take (i:=0) (v:=(.pointer (some ⟨w.heap.size,0,none⟩))) rfl (by kernel_rfl) (by kernel_rfl) (by kernel_rfl) (fun _ _ _ h=>h) (Or.inl ⟨by rfl,fun wz hz=>by skip;go_simp⟩) hH ?_
  try simp only [Act.put,List.getElem_toArray,List.getElem_cons_zero,List.setIfInBounds_toArray,List.set_cons_zero,List.set_cons_succ]
  refine wpAnyH_take (i:=1) (v:=(.agg (mgL n2).toArray)) rfl (by kernel_rfl) (by kernel_rfl) (by kernel_rfl) (fun _ _ _ h=>h) (yld86 w.heap.size 0 n2 rfl ⟨_,rfl,rfl⟩ (fun wz hz=>(range_sg hz.2.1).1)) hH ?_
  try simp only [Act.put,List.getElem_toArray,List.getElem_cons_succ,List.getElem_cons_zero,List.setIfInBounds_toArray,List.set_cons_zero,List.set_cons_succ]
  refine wpAnyH_take (i:=2) (v:=(.pointer (some ⟨(w.heap.size + 1),0,none⟩))) rfl (by kernel_rfl) (by kernel_rfl) (by kernel_rfl) (fun _ _ _ h=>h) (Or.inl ⟨by rfl,fun wz hz=>by skip;go_simp⟩) hH ?_
  try simp only [Act.put,List.getElem_toArray,List.getElem_cons_succ,List.getElem_cons_zero,List.setIfInBounds_toArray,List.set_cons_zero,List.set_cons_succ]
  refine wpAnyH_take (i:=3) (v:=(.agg (mgL n1).toArray)) rfl (by kernel_rfl) (by kernel_rfl) (by kernel_rfl) (fun _ _ _ h=>h) (yld86 (w.heap.size + 1) 0 n1 rfl ⟨_,rfl,rfl⟩ (fun wz hz=>(range_sg hz.2.2.1).1)) hH ?_
  try simp only [Act.put,List.getElem_toArray,List.getElem_cons_succ,List.getElem_cons_zero,List.setIfInBounds_toArray,List.set_cons_zero,List.set_cons_succ]
  refine wpAnyH_take (i:=5) (v:=(.pointer (some ⟨w.heap.size,30,none⟩))) rfl (by kernel_rfl) (by kernel_rfl) (by kernel_rfl) (fun _ _ _ h=>h) (Or.inl ⟨by rfl,fun wz hz=>by skip;go_simp⟩) hH ?_
  try simp only [Act.put,List.getElem_toArray,List.getElem_cons_succ,List.getElem_cons_zero,List.setIfInBounds_toArray,List.set_cons_zero,List.set_cons_succ]
  refine wpAnyH_take (i:=6) (v:=(.bool s2)) rfl (by kernel_rfl) (by kernel_rfl) (by kernel_rfl) (fun _ _ _ h=>h) (Or.inl ⟨by rfl,fun wz hz=>by have hc:=cell_sg hz.2.1;go_simp⟩) hH ?_
  try simp only [Act.put,List.getElem_toArray,List.getElem_cons_succ,List.getElem_cons_zero,List.setIfInBounds_toArray,List.set_cons_zero,List.set_cons_succ]
  refine wpAnyH_ready (rs:=[4]) (by kernel_rfl) (by simp) ?_
  refine AllReadyH.cons rfl (fun K hK=>?_) AllReadyH.nil
  simp only [List.getElem_toArray,List.getElem_cons_succ,List.getElem_cons_zero]
  rw [if_pos (by rfl)]
  go_simp
  refine (distance_any n2 n1 H2.out H1.out _).mono ?_;rintro e w1 ⟨rfl,hb1⟩
  try simp only []
  refine hK.out _ _ ?_ (fun hH1=>?_)
  · exact ⟨(hH.1).trans (hb1.mono (hH.1).size),range_keep hH.2.1 hb1,range_keep hH.2.2.1 hb1,there_keep hH.2.2.2 hb1⟩
  clear hK K
  try simp only [Act.put,List.getElem_toArray,List.getElem_cons_succ,List.getElem_cons_zero,List.setIfInBounds_toArray,List.set_cons_zero,List.set_cons_succ]
  refine wpAnyH_ready (rs:=[7]) (by kernel_rfl) (by simp) ?_
  refine AllReadyH.cons rfl (fun K hK=>?_) AllReadyH.nil
  simp only [List.getElem_toArray,List.getElem_cons_succ,List.getElem_cons_zero]
  rw [if_pos (by rfl)]
  go_simp
  refine (number_any (max n2 n1 - min n2 n1) s2 (by rw [Hmx.out];exact H3.out) _).mono ?_;rintro e w2 ⟨rfl,hb2⟩
  try simp only []
  refine hK.out _ _ ?_ (fun hH2=>?_)
  · exact ⟨(hH1.1).trans (hb2.mono (hH1.1).size),range_keep hH1.2.1 hb2,range_keep hH1.2.2.1 hb2,there_keep hH1.2.2.2 hb2⟩
  clear hK K
  try simp only [Act.put,List.getElem_toArray,List.getElem_cons_succ,List.getElem_cons_zero,List.setIfInBounds_toArray,List.set_cons_zero,List.set_cons_succ]
  refine wpAnyH_ready (rs:=[8]) (by kernel_rfl) (by simp) ?_
  refine AllReadyH.cons rfl (fun K hK=>?_) AllReadyH.nil
  simp only [List.getElem_toArray,List.getElem_cons_succ,List.getElem_cons_zero]
  rw [if_pos (by rfl)]
  with_reducible refine wst88 (w.heap.size + 2) 0 (max n2 n1 - min n2 n1) (s2 && !decide (max n2 n1 - min n2 n1 = 0)) ?_ hH2.2.2.2 ?_
  · exact ⟨_,_,rfl,rfl,rfl⟩
  refine hK.out _ _ ?_ (fun hH3=>?_)
  · exact ⟨below_set hH2.1 (by omega) _ _,range_setk hH2.2.1 (by first | trivial | omega),range_setk hH2.2.2.1 (by first | trivial | omega),there_setk hH2.2.2.2 (by first | trivial | omega)⟩
  clear hK K
  try simp only [Act.put]
  refine wpAnyH_done (by kernel_rfl) ?_ _
  go_wp2
  refine ret88 Tryz.results78 (w.heap.size + 2) 0 rfl (max n2 n1 - min n2 n1) (s2 && !decide (max n2 n1 - min n2 n1 = 0)) (range_set hH2.2.2.2 (by rw [sgL_len])) rfl ⟨by rw [Hmx.out],hH3.1⟩
end
section
open Go.RowKit
def cmpS (n1 : Nat) (s1 : Bool) (n2 : Nat) (s2 : Bool) : Int:=match s1,s2 with
  | true,false=>-1
  | false,true=>1
  | true,true=>cmpN n2 n1
  | false,false=>cmpN n1 n2
set_option maxHeartbeats 1000000 in
theorem cmpS_tt (n1 n2 : Nat) (h1 : n1 < bb ^ 30) (h2 : n2 < bb ^ 30) (w : World) :
    Calls Tryz.prog 92 #[.agg (sgL n1 true).toArray,.agg (sgL n2 true).toArray] w fun e w'=>e = .returned (.int .i64 (cmpS n1 true n2 true))/\Below w.heap.size w w':=by
  have H1:=Lib.hid h1;have H2:=Lib.hid h2;clear h1 h2
  have c1 : (sgL n1 true)[30]? = some (.bool true):=sgL_get
  have c2 : (sgL n2 true)[30]? = some (.bool true):=sgL_get
  have Hb:=Lib.hid (show Below w.heap.size w ((w.alloc (.cells (sgL n1 true).toArray 88)).alloc (.cells (sgL n2 true).toArray 88)) from ((Below.refl w.heap.size w).alloc (Nat.le_refl _) _).alloc (by simp) _)
  have Hr1:=Lib.hid (show ((w.alloc (.cells (sgL n1 true).toArray 88)).alloc (.cells (sgL n2 true).toArray 88)).rangeAt w.heap.size 0 (sgL n1 true) from World.rangeAt_alloc (range_new w _ 88) _)
  have Hr2:=Lib.hid (show ((w.alloc (.cells (sgL n1 true).toArray 88)).alloc (.cells (sgL n2 true).toArray 88)).rangeAt (w.heap.size + 1) 0 (sgL n2 true) from range_at (by simp) _ 88)
  go_enter Tryz.func92,Tryz.ntmps92
  go_wp2_with (first
    | ((with_reducible refine ld86 w.heap.size 0 n1 ?_ ?_ ?_);(· exact ⟨rfl,_,rfl,rfl⟩);· exact (range_sg Hr1.out).1)
    | ((with_reducible refine ld86 (w.heap.size + 1) 0 n2 ?_ ?_ ?_);(· exact ⟨rfl,_,rfl,rfl⟩);· exact (range_sg Hr2.out).1)
    | (go_at_call 146;(with_reducible refine (compare_any n2 n1 H2.out H1.out _).mono ?_);rintro e w1 ⟨rfl,hb1⟩;have HB1:=Lib.hid hb1;clear hb1))
  go_ret
  exact ⟨rfl,Hb.out.trans (HB1.out.mono Hb.out.size)⟩
set_option maxHeartbeats 1000000 in
theorem cmpS_tf (n1 n2 : Nat) (h1 : n1 < bb ^ 30) (h2 : n2 < bb ^ 30) (w : World) :
    Calls Tryz.prog 92 #[.agg (sgL n1 true).toArray,.agg (sgL n2 false).toArray] w fun e w'=>e = .returned (.int .i64 (cmpS n1 true n2 false))/\Below w.heap.size w w':=by
  have H1:=Lib.hid h1;have H2:=Lib.hid h2;clear h1 h2
  have c1 : (sgL n1 true)[30]? = some (.bool true):=sgL_get
  have c2 : (sgL n2 false)[30]? = some (.bool false):=sgL_get
  have Hb:=Lib.hid (show Below w.heap.size w ((w.alloc (.cells (sgL n1 true).toArray 88)).alloc (.cells (sgL n2 false).toArray 88)) from ((Below.refl w.heap.size w).alloc (Nat.le_refl _) _).alloc (by simp) _)
  have Hr1:=Lib.hid (show ((w.alloc (.cells (sgL n1 true).toArray 88)).alloc (.cells (sgL n2 false).toArray 88)).rangeAt w.heap.size 0 (sgL n1 true) from World.rangeAt_alloc (range_new w _ 88) _)
  have Hr2:=Lib.hid (show ((w.alloc (.cells (sgL n1 true).toArray 88)).alloc (.cells (sgL n2 false).toArray 88)).rangeAt (w.heap.size + 1) 0 (sgL n2 false) from range_at (by simp) _ 88)
  go_enter Tryz.func92,Tryz.ntmps92
  go_wp2
  go_ret
  exact ⟨rfl,Hb.out⟩
set_option maxHeartbeats 1000000 in
theorem cmpS_ft (n1 n2 : Nat) (h1 : n1 < bb ^ 30) (h2 : n2 < bb ^ 30) (w : World) :
    Calls Tryz.prog 92 #[.agg (sgL n1 false).toArray,.agg (sgL n2 true).toArray] w fun e w'=>e = .returned (.int .i64 (cmpS n1 false n2 true))/\Below w.heap.size w w':=by
  have H1:=Lib.hid h1;have H2:=Lib.hid h2;clear h1 h2
  have c1 : (sgL n1 false)[30]? = some (.bool false):=sgL_get
  have c2 : (sgL n2 true)[30]? = some (.bool true):=sgL_get
  have Hb:=Lib.hid (show Below w.heap.size w ((w.alloc (.cells (sgL n1 false).toArray 88)).alloc (.cells (sgL n2 true).toArray 88)) from ((Below.refl w.heap.size w).alloc (Nat.le_refl _) _).alloc (by simp) _)
  have Hr1:=Lib.hid (show ((w.alloc (.cells (sgL n1 false).toArray 88)).alloc (.cells (sgL n2 true).toArray 88)).rangeAt w.heap.size 0 (sgL n1 false) from World.rangeAt_alloc (range_new w _ 88) _)
  have Hr2:=Lib.hid (show ((w.alloc (.cells (sgL n1 false).toArray 88)).alloc (.cells (sgL n2 true).toArray 88)).rangeAt (w.heap.size + 1) 0 (sgL n2 true) from range_at (by simp) _ 88)
  go_enter Tryz.func92,Tryz.ntmps92
  go_wp2
  go_ret
  exact ⟨rfl,Hb.out⟩
set_option maxHeartbeats 1000000 in
theorem cmpS_ff (n1 n2 : Nat) (h1 : n1 < bb ^ 30) (h2 : n2 < bb ^ 30) (w : World) :
    Calls Tryz.prog 92 #[.agg (sgL n1 false).toArray,.agg (sgL n2 false).toArray] w fun e w'=>e = .returned (.int .i64 (cmpS n1 false n2 false))/\Below w.heap.size w w':=by
  have H1:=Lib.hid h1;have H2:=Lib.hid h2;clear h1 h2
  have c1 : (sgL n1 false)[30]? = some (.bool false):=sgL_get
  have c2 : (sgL n2 false)[30]? = some (.bool false):=sgL_get
  have Hb:=Lib.hid (show Below w.heap.size w ((w.alloc (.cells (sgL n1 false).toArray 88)).alloc (.cells (sgL n2 false).toArray 88)) from ((Below.refl w.heap.size w).alloc (Nat.le_refl _) _).alloc (by simp) _)
  have Hr1:=Lib.hid (show ((w.alloc (.cells (sgL n1 false).toArray 88)).alloc (.cells (sgL n2 false).toArray 88)).rangeAt w.heap.size 0 (sgL n1 false) from World.rangeAt_alloc (range_new w _ 88) _)
  have Hr2:=Lib.hid (show ((w.alloc (.cells (sgL n1 false).toArray 88)).alloc (.cells (sgL n2 false).toArray 88)).rangeAt (w.heap.size + 1) 0 (sgL n2 false) from range_at (by simp) _ 88)
  go_enter Tryz.func92,Tryz.ntmps92
  go_wp2_with (first
    | ((with_reducible refine ld86 w.heap.size 0 n1 ?_ ?_ ?_);(· exact ⟨rfl,_,rfl,rfl⟩);· exact (range_sg Hr1.out).1)
    | ((with_reducible refine ld86 (w.heap.size + 1) 0 n2 ?_ ?_ ?_);(· exact ⟨rfl,_,rfl,rfl⟩);· exact (range_sg Hr2.out).1)
    | (go_at_call 146;(with_reducible refine (compare_any n1 n2 H1.out H2.out _).mono ?_);rintro e w1 ⟨rfl,hb1⟩;have HB1:=Lib.hid hb1;clear hb1))
  go_ret
  exact ⟨rfl,Hb.out.trans (HB1.out.mono Hb.out.size)⟩
theorem compareS_any (n1 n2 : Nat) (s1 s2 : Bool) (h1 : n1 < bb ^ 30) (h2 : n2 < bb ^ 30) (w : World) :
    Calls Tryz.prog 92 #[.agg (sgL n1 s1).toArray,.agg (sgL n2 s2).toArray] w fun e w'=>e = .returned (.int .i64 (cmpS n1 s1 n2 s2))/\Below w.heap.size w w':=by
  cases s1 <;> cases s2
  · exact cmpS_ff n1 n2 h1 h2 w
  · exact cmpS_ft n1 n2 h1 h2 w
  · exact cmpS_tf n1 n2 h1 h2 w
  · exact cmpS_tt n1 n2 h1 h2 w
def ckWidth (n : Int) : Int:=if n < 1 ∨ 64 < n then 3 else 0
theorem checkWidth_any (n : Int) (w : World) :
    Calls Tryz.prog 123 #[.int .i64 n] w fun e w'=>e = .returned (.int .i64 (ckWidth n))/\w = w':=by
  by_cases h1 : n < 1
  · go_enter Tryz.func123,Tryz.ntmps123
    go_wp2
    go_ret
    exact ⟨by simp [ckWidth,h1],rfl⟩
  · by_cases h2 : 64 < n
    · go_enter Tryz.func123,Tryz.ntmps123
      go_wp2
      go_ret
      exact ⟨by simp [ckWidth,h2],rfl⟩
    · go_enter Tryz.func123,Tryz.ntmps123
      go_wp2
      go_ret
      exact ⟨by simp [ckWidth,h1,h2],rfl⟩
set_option maxRecDepth 100000 in
theorem maskStep : ∀ j : Nat,j < 64->bits BinOp.or IntKind.u64 (IntKind.u64.wrap (((2 ^ j - 1 : Nat) : Int) * 2)) 1 = ((2 ^ (j + 1) - 1 : Nat) : Int):=by decide
theorem mask_any (k : Nat) (hk : k <= 64) (w : World) :
    Calls Tryz.prog 125 #[.int .i64 k] w fun e w'=>e = .returned (.int .u64 (2 ^ k - 1 : Nat))/\w = w':=by
  go_enter Tryz.func125,Tryz.ntmps125
  go_wp2
  go_loop [3,5] (fun m i=>∃ j : Nat,j <= k/\i = .int .i64 j/\m = .int .u64 (2 ^ j - 1 : Nat)) (fun _ i=>k - (intOf i).toNat)
  case atStart=>exact ⟨0,by omega,rfl,rfl⟩
  case round =>
    obtain ⟨j,hj,rfl,rfl⟩:=hrel
    by_cases hlt : j < k
    · go_wp2
      go_round
      case rel=>exact ⟨j + 1,by omega,by go_num,int_v (maskStep j (by omega))⟩
      case measure=>simp only [intOf];omega
    · go_wp2
      go_ret
      exact ⟨ret_int (by rw [show j = k by omega]),rfl⟩
end
end Go.Proofs.YtpbegoflpfdajaaGreatDoor
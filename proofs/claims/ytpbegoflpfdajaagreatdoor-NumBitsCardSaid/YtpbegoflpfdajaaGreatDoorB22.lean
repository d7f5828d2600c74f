/- WHAT IS PROVED: contracts of functions of the numbers package and laws for them, used by the last text of this claim. CONDITIONS: stated at each theorem. -/
import Derived.Test.YtpbegoflpfdajaaGreatDoorB21
namespace Go.Proofs.YtpbegoflpfdajaaGreatDoor
section
open Go.RowKit
def frR (p : Nat) (s : Bool) (q : Nat) (t : Bool) : List Value:=frL (p / Nat.gcd p q) (ratS p s t && !decide (p / Nat.gcd p q = 0)) (q / Nat.gcd p q) false
theorem fr_up {w : World} {b p q : Nat} {s t : Bool} (h : w.rangeAt b 0 (frL p s q t)) : w.rangeAt b 0 (sgL p s):=(range_fr h).1
theorem fr_lo {w : World} {b p q : Nat} {s t : Bool} (h : w.rangeAt b 0 (frL p s q t)) : w.rangeAt b 31 (sgL q t):=by have:=(range_fr h).2;rwa [Nat.zero_add] at this
def mulS (s t : Bool) (n : Nat) : Bool:=(s != t) && !decide (n = 0)
theorem lt28 {a b : Nat} (ha : a < bb ^ 14) (hb : b < bb ^ 14) : a * b < bb ^ 28:=by
  have h1 : a * b < bb ^ 14 * bb ^ 14:=Nat.mul_lt_mul'' ha hb
  rwa [<- Nat.pow_add] at h1
theorem lt29 {a : Nat} (ha : a < bb ^ 28) : a < bb ^ 29:=Nat.lt_of_lt_of_le ha (pow_mono (by omega))
theorem lt30 {a : Nat} (ha : a < bb ^ 28) : a < bb ^ 30:=Nat.lt_of_lt_of_le ha (pow_mono (by omega))
theorem mulS_any (n1 n2 : Nat) (s1 s2 : Bool) (h1 : n1 < bb ^ 14) (h2 : n2 < bb ^ 14) (w : World) :
    Calls Tryz.prog 83 #[.agg (sgL n1 s1).toArray,.agg (sgL n2 s2).toArray] w fun e w'=>e = .returned (.agg (sgL (n1 * n2) (mulS s1 s2 (n1 * n2))).toArray)/\Below w.heap.size w w' :=
  timesS_any n1 n2 s1 s2 (big_of h1) (big_of h2) (lt30 (lt28 h1 h2)) w
set_option maxHeartbeats 4000000 in
set_option maxRecDepth 20000 in
theorem times_frac (p1 : Nat) (s1 : Bool) (q1 : Nat) (p2 : Nat) (s2 : Bool) (q2 : Nat) (h1 : p1 < bb ^ 14) (h2 : q1 < bb ^ 14) (h3 : p2 < bb ^ 14) (h4 : q2 < bb ^ 14) (h0 : 0 < q1) (h5 : 0 < q2) (w : World) :
    Calls Tryz.prog 105 #[.agg (frL p1 s1 q1 false).toArray,.agg (frL p2 s2 q2 false).toArray] w fun e w'=>e = .returned (.agg (frR (p1 * p2) (mulS s1 s2 (p1 * p2)) (q1 * q2) (mulS false false (q1 * q2))).toArray)/\Below w.heap.size w w':=by
  have C1:=Lib.hid (fun w=>mulS_any p1 p2 s1 s2 h1 h3 w)
  have C2:=Lib.hid (fun w=>mulS_any q1 q2 false false h2 h4 w)
  have c3:=fun w=>ratio_any (p1 * p2) (mulS s1 s2 (p1 * p2)) (q1 * q2) (mulS false false (q1 * q2)) (lt29 (lt28 h1 h3)) (lt29 (lt28 h2 h4)) (Nat.mul_pos h0 h5) w
  unfold frR
  obtain ⟨a,ha⟩ : ∃ a,p1 * p2 / Nat.gcd (p1 * p2) (q1 * q2) = a:=⟨_,rfl⟩
  obtain ⟨b,hb⟩ : ∃ b,(ratS (p1 * p2) (mulS s1 s2 (p1 * p2)) (mulS false false (q1 * q2)) && !decide (p1 * p2 / Nat.gcd (p1 * p2) (q1 * q2) = 0)) = b:=⟨_,rfl⟩
  obtain ⟨c,hc⟩ : ∃ c,q1 * q2 / Nat.gcd (p1 * p2) (q1 * q2) = c:=⟨_,rfl⟩
  rw [hb,ha,hc] at c3
  rw [hb,ha,hc]
  have C3:=Lib.hid c3
  have HB:=Lib.hid (show Below w.heap.size w (((w.alloc (.cells (frL p1 s1 q1 false).toArray 115)).alloc (.cells (frL p2 s2 q2 false).toArray 115)).alloc (.cells (frL 0 false 0 false).toArray 115)) from (((Below.refl w.heap.size w).alloc (Nat.le_refl _) _).alloc (by simp) _).alloc (by simp;omega) _)
  have HR1:=Lib.hid (show (((w.alloc (.cells (frL p1 s1 q1 false).toArray 115)).alloc (.cells (frL p2 s2 q2 false).toArray 115)).alloc (.cells (frL 0 false 0 false).toArray 115)).drew.rangeAt w.heap.size 0 (frL p1 s1 q1 false) from World.rangeAt_alloc (World.rangeAt_alloc (range_new w _ 115) _) _)
  have HR2:=Lib.hid (show (((w.alloc (.cells (frL p1 s1 q1 false).toArray 115)).alloc (.cells (frL p2 s2 q2 false).toArray 115)).alloc (.cells (frL 0 false 0 false).toArray 115)).drew.rangeAt (w.heap.size + 1) 0 (frL p2 s2 q2 false) from World.rangeAt_alloc (range_at (by simp) _ 115) _)
  have HT:=Lib.hid (show (((w.alloc (.cells (frL p1 s1 q1 false).toArray 115)).alloc (.cells (frL p2 s2 q2 false).toArray 115)).alloc (.cells (frL 0 false 0 false).toArray 115)).drew.there (w.heap.size + 2) 0 62 from there_at (by simp) _ 115 (by rw [frL_len]))
  clear c3 ha hb hc
  go_enter Tryz.func105,Tryz.ntmps105
  go_wp2_with (first
    | ((with_reducible refine al_zb 115 _ (w.heap.size + 2) ?_ ?_ z115 ?_);(· exact ⟨rfl,rfl⟩);· (simp;done)))
  try simp only [Act.put,List.setIfInBounds_toArray,List.set_cons_zero,List.set_cons_succ]
  refine wp_region_held_drew (S:=(fun w'=>Below w.heap.size w w'/\w'.rangeAt w.heap.size 0 (frL p1 s1 q1 false)/\w'.rangeAt (w.heap.size + 1) 0 (frL p2 s2 q2 false)/\w'.there (w.heap.size + 2) 0 62)) (by kernel_rfl) ?_ (fun hH=>?_)
  · exact ⟨HB.out.drew,HR1.out,HR2.out,HT.out⟩
  try dsimp only at hH
  refine wpAnyH_take (i:=0) (v:=(.pointer (some ⟨w.heap.size,0,none⟩))) rfl (by kernel_rfl) (by kernel_rfl) (by kernel_rfl) (fun _ _ _ h=>h) (Or.inl ⟨by rfl,fun wz hz=>by skip;go_simp⟩) hH ?_
  try simp only [Act.put,List.getElem_toArray,List.getElem_cons_zero,List.setIfInBounds_toArray,List.set_cons_zero,List.set_cons_succ]
  refine wpAnyH_take (i:=1) (v:=(.agg (sgL p1 s1).toArray)) rfl (by kernel_rfl) (by kernel_rfl) (by kernel_rfl) (fun _ _ _ h=>h) (yld88 w.heap.size 0 p1 s1 rfl ⟨_,rfl,rfl⟩ (fun wz hz=>fr_up (hz.2.1))) hH ?_
  try simp only [Act.put,List.getElem_toArray,List.getElem_cons_succ,List.getElem_cons_zero,List.setIfInBounds_toArray,List.set_cons_zero,List.set_cons_succ]
  refine wpAnyH_take (i:=2) (v:=(.pointer (some ⟨w.heap.size + 1,0,none⟩))) rfl (by kernel_rfl) (by kernel_rfl) (by kernel_rfl) (fun _ _ _ h=>h) (Or.inl ⟨by rfl,fun wz hz=>by skip;go_simp⟩) hH ?_
  try simp only [Act.put,List.getElem_toArray,List.getElem_cons_succ,List.getElem_cons_zero,List.setIfInBounds_toArray,List.set_cons_zero,List.set_cons_succ]
  refine wpAnyH_take (i:=3) (v:=(.agg (sgL p2 s2).toArray)) rfl (by kernel_rfl) (by kernel_rfl) (by kernel_rfl) (fun _ _ _ h=>h) (yld88 (w.heap.size + 1) 0 p2 s2 rfl ⟨_,rfl,rfl⟩ (fun wz hz=>fr_up (hz.2.2.1))) hH ?_
  try simp only [Act.put,List.getElem_toArray,List.getElem_cons_succ,List.getElem_cons_zero,List.setIfInBounds_toArray,List.set_cons_zero,List.set_cons_succ]
  refine wpAnyH_take (i:=5) (v:=(.pointer (some ⟨w.heap.size,31,none⟩))) rfl (by kernel_rfl) (by kernel_rfl) (by kernel_rfl) (fun _ _ _ h=>h) (Or.inl ⟨by rfl,fun wz hz=>by skip;go_simp⟩) hH ?_
  try simp only [Act.put,List.getElem_toArray,List.getElem_cons_succ,List.getElem_cons_zero,List.setIfInBounds_toArray,List.set_cons_zero,List.set_cons_succ]
  refine wpAnyH_take (i:=6) (v:=(.agg (sgL q1 false).toArray)) rfl (by kernel_rfl) (by kernel_rfl) (by kernel_rfl) (fun _ _ _ h=>h) (yld88 w.heap.size 31 q1 false rfl ⟨_,rfl,rfl⟩ (fun wz hz=>fr_lo (hz.2.1))) hH ?_
  try simp only [Act.put,List.getElem_toArray,List.getElem_cons_succ,List.getElem_cons_zero,List.setIfInBounds_toArray,List.set_cons_zero,List.set_cons_succ]
  refine wpAnyH_take (i:=7) (v:=(.pointer (some ⟨w.heap.size + 1,31,none⟩))) rfl (by kernel_rfl) (by kernel_rfl) (by kernel_rfl) (fun _ _ _ h=>h) (Or.inl ⟨by rfl,fun wz hz=>by skip;go_simp⟩) hH ?_
  try simp only [Act.put,List.getElem_toArray,List.getElem_cons_succ,List.getElem_cons_zero,List.setIfInBounds_toArray,List.set_cons_zero,List.set_cons_succ]
  refine wpAnyH_take (i:=8) (v:=(.agg (sgL q2 false).toArray)) rfl (by kernel_rfl) (by kernel_rfl) (by kernel_rfl) (fun _ _ _ h=>h) (yld88 (w.heap.size + 1) 31 q2 false rfl ⟨_,rfl,rfl⟩ (fun wz hz=>fr_lo (hz.2.2.1))) hH ?_
  try simp only [Act.put,List.getElem_toArray,List.getElem_cons_succ,List.getElem_cons_zero,List.setIfInBounds_toArray,List.set_cons_zero,List.set_cons_succ]
  refine wpAnyH_ready (rs:=[4]) (by kernel_rfl) (by simp) ?_
  refine AllReadyH.cons rfl (fun K hK=>?_) AllReadyH.nil
  simp only [List.getElem_toArray,List.getElem_cons_succ,List.getElem_cons_zero]
  rw [if_pos (by rfl)]
  go_simp
  refine (C1.out _).mono ?_;rintro e w1 ⟨rfl,hb1⟩
  try simp only []
  refine hK.out _ _ ?_ (fun hH1=>?_)
  · exact ⟨(hH.1).trans (hb1.mono (hH.1).size),range_keep hH.2.1 hb1,range_keep hH.2.2.1 hb1,there_keep hH.2.2.2 hb1⟩
  clear hK K
  try simp only [Act.put,List.getElem_toArray,List.getElem_cons_succ,List.getElem_cons_zero,List.setIfInBounds_toArray,List.set_cons_zero,List.set_cons_succ]
  refine wpAnyH_ready (rs:=[9]) (by kernel_rfl) (by simp) ?_
  refine AllReadyH.cons rfl (fun K hK=>?_) AllReadyH.nil
  simp only [List.getElem_toArray,List.getElem_cons_succ,List.getElem_cons_zero]
  rw [if_pos (by rfl)]
  go_simp
  refine (C2.out _).mono ?_;rintro e w2 ⟨rfl,hb2⟩
  try simp only []
  refine hK.out _ _ ?_ (fun hH2=>?_)
  · exact ⟨(hH1.1).trans (hb2.mono (hH1.1).size),range_keep hH1.2.1 hb2,range_keep hH1.2.2.1 hb2,there_keep hH1.2.2.2 hb2⟩
  clear hK K
  try simp only [Act.put,List.getElem_toArray,List.getElem_cons_succ,List.getElem_cons_zero,List.setIfInBounds_toArray,List.set_cons_zero,List.set_cons_succ]
  refine wpAnyH_ready (rs:=[10]) (by kernel_rfl) (by simp) ?_
  refine AllReadyH.cons rfl (fun K hK=>?_) AllReadyH.nil
  simp only [List.getElem_toArray,List.getElem_cons_succ,List.getElem_cons_zero]
  rw [if_pos (by rfl)]
  go_simp
  refine (C3.out _).mono ?_;rintro e w3 ⟨rfl,hb3⟩
  try simp only []
  refine hK.out _ _ ?_ (fun hH3=>?_)
  · exact ⟨(hH2.1).trans (hb3.mono (hH2.1).size),range_keep hH2.2.1 hb3,range_keep hH2.2.2.1 hb3,there_keep hH2.2.2.2 hb3⟩
  clear hK K
  try simp only [Act.put,List.getElem_toArray,List.getElem_cons_succ,List.getElem_cons_zero,List.setIfInBounds_toArray,List.set_cons_zero,List.set_cons_succ]
  refine wpAnyH_ready (rs:=[11]) (by kernel_rfl) (by simp) ?_
  refine AllReadyH.cons rfl (fun K hK=>?_) AllReadyH.nil
  simp only [List.getElem_toArray,List.getElem_cons_succ,List.getElem_cons_zero]
  rw [if_pos (by rfl)]
  with_reducible refine wst115 (w.heap.size + 2) 0 a b c false ?_ hH3.2.2.2 ?_
  · exact ⟨_,_,rfl,rfl,rfl⟩
  refine hK.out _ _ ?_ (fun hH4=>?_)
  · exact ⟨below_set hH3.1 (by omega) _ _,range_setk hH3.2.1 (by first | trivial | omega),range_setk hH3.2.2.1 (by first | trivial | omega),there_setk hH3.2.2.2 (by first | trivial | omega)⟩
  clear hK K
  try simp only [Act.put]
  refine wpAnyH_done (by kernel_rfl) ?_ _
  go_wp2
  exact ret115 Tryz.results105 (w.heap.size + 2) 0 rfl a b c false (range_set hH3.2.2.2 (by rw [frL_len])) rfl ⟨rfl,hH4.1⟩
set_option maxHeartbeats 4000000 in
set_option maxRecDepth 20000 in
theorem over_frac (p1 : Nat) (s1 : Bool) (q1 : Nat) (p2 : Nat) (s2 : Bool) (q2 : Nat) (h1 : p1 < bb ^ 14) (h2 : q1 < bb ^ 14) (h3 : p2 < bb ^ 14) (h4 : q2 < bb ^ 14) (h0 : 0 < q1) (h5 : 0 < p2) (w : World) :
    Calls Tryz.prog 108 #[.agg (frL p1 s1 q1 false).toArray,.agg (frL p2 s2 q2 false).toArray] w fun e w'=>e = .returned (.agg (frR (p1 * q2) (mulS s1 false (p1 * q2)) (q1 * p2) (mulS false s2 (q1 * p2))).toArray)/\Below w.heap.size w w':=by
  have C1:=Lib.hid (fun w=>mulS_any p1 q2 s1 false h1 h4 w)
  have C2:=Lib.hid (fun w=>mulS_any q1 p2 false s2 h2 h3 w)
  have c3:=fun w=>ratio_any (p1 * q2) (mulS s1 false (p1 * q2)) (q1 * p2) (mulS false s2 (q1 * p2)) (lt29 (lt28 h1 h4)) (lt29 (lt28 h2 h3)) (Nat.mul_pos h0 h5) w
  unfold frR
  obtain ⟨a,ha⟩ : ∃ a,p1 * q2 / Nat.gcd (p1 * q2) (q1 * p2) = a:=⟨_,rfl⟩
  obtain ⟨b,hb⟩ : ∃ b,(ratS (p1 * q2) (mulS s1 false (p1 * q2)) (mulS false s2 (q1 * p2)) && !decide (p1 * q2 / Nat.gcd (p1 * q2) (q1 * p2) = 0)) = b:=⟨_,rfl⟩
  obtain ⟨c,hc⟩ : ∃ c,q1 * p2 / Nat.gcd (p1 * q2) (q1 * p2) = c:=⟨_,rfl⟩
  rw [hb,ha,hc] at c3
  rw [hb,ha,hc]
  have C3:=Lib.hid c3
  have HB:=Lib.hid (show Below w.heap.size w (((w.alloc (.cells (frL p1 s1 q1 false).toArray 115)).alloc (.cells (frL p2 s2 q2 false).toArray 115)).alloc (.cells (frL 0 false 0 false).toArray 115)) from (((Below.refl w.heap.size w).alloc (Nat.le_refl _) _).alloc (by simp) _).alloc (by simp;omega) _)
  have HR1:=Lib.hid (show (((w.alloc (.cells (frL p1 s1 q1 false).toArray 115)).alloc (.cells (frL p2 s2 q2 false).toArray 115)).alloc (.cells (frL 0 false 0 false).toArray 115)).drew.rangeAt w.heap.size 0 (frL p1 s1 q1 false) from World.rangeAt_alloc (World.rangeAt_alloc (range_new w _ 115) _) _)
  have HR2:=Lib.hid (show (((w.alloc (.cells (frL p1 s1 q1 false).toArray 115)).alloc (.cells (frL p2 s2 q2 false).toArray 115)).alloc (.cells (frL 0 false 0 false).toArray 115)).drew.rangeAt (w.heap.size + 1) 0 (frL p2 s2 q2 false) from World.rangeAt_alloc (range_at (by simp) _ 115) _)
  have HT:=Lib.hid (show (((w.alloc (.cells (frL p1 s1 q1 false).toArray 115)).alloc (.cells (frL p2 s2 q2 false).toArray 115)).alloc (.cells (frL 0 false 0 false).toArray 115)).drew.there (w.heap.size + 2) 0 62 from there_at (by simp) _ 115 (by rw [frL_len]))
  clear c3 ha hb hc
  go_enter Tryz.func108,Tryz.ntmps108
  go_wp2_with (first
    | ((with_reducible refine al_zb 115 _ (w.heap.size + 2) ?_ ?_ z115 ?_);(· exact ⟨rfl,rfl⟩);· (simp;done)))
  try simp only [Act.put,List.setIfInBounds_toArray,List.set_cons_zero,List.set_cons_succ]
  refine wp_region_held_drew (S:=(fun w'=>Below w.heap.size w w'/\w'.rangeAt w.heap.size 0 (frL p1 s1 q1 false)/\w'.rangeAt (w.heap.size + 1) 0 (frL p2 s2 q2 false)/\w'.there (w.heap.size + 2) 0 62)) (by kernel_rfl) ?_ (fun hH=>?_)
  · exact ⟨HB.out.drew,HR1.out,HR2.out,HT.out⟩
  try dsimp only at hH
  refine wpAnyH_take (i:=0) (v:=(.pointer (some ⟨w.heap.size,0,none⟩))) rfl (by kernel_rfl) (by kernel_rfl) (by kernel_rfl) (fun _ _ _ h=>h) (Or.inl ⟨by rfl,fun wz hz=>by skip;go_simp⟩) hH ?_
  try simp only [Act.put,List.getElem_toArray,List.getElem_cons_zero,List.setIfInBounds_toArray,List.set_cons_zero,List.set_cons_succ]
  refine wpAnyH_take (i:=1) (v:=(.agg (sgL p1 s1).toArray)) rfl (by kernel_rfl) (by kernel_rfl) (by kernel_rfl) (fun _ _ _ h=>h) (yld88 w.heap.size 0 p1 s1 rfl ⟨_,rfl,rfl⟩ (fun wz hz=>fr_up (hz.2.1))) hH ?_
  try simp only [Act.put,List.getElem_toArray,List.getElem_cons_succ,List.getElem_cons_zero,List.setIfInBounds_toArray,List.set_cons_zero,List.set_cons_succ]
  refine wpAnyH_take (i:=2) (v:=(.pointer (some ⟨w.heap.size + 1,31,none⟩))) rfl (by kernel_rfl) (by kernel_rfl) (by kernel_rfl) (fun _ _ _ h=>h) (Or.inl ⟨by rfl,fun wz hz=>by skip;go_simp⟩) hH ?_
  try simp only [Act.put,List.getElem_toArray,List.getElem_cons_succ,List.getElem_cons_zero,List.setIfInBounds_toArray,List.set_cons_zero,List.set_cons_succ]
  refine wpAnyH_take (i:=3) (v:=(.agg (sgL q2 false).toArray)) rfl (by kernel_rfl) (by kernel_rfl) (by kernel_rfl) (fun _ _ _ h=>h) (yld88 (w.heap.size + 1) 31 q2 false rfl ⟨_,rfl,rfl⟩ (fun wz hz=>fr_lo (hz.2.2.1))) hH ?_
  try simp only [Act.put,List.getElem_toArray,List.getElem_cons_succ,List.getElem_cons_zero,List.setIfInBounds_toArray,List.set_cons_zero,List.set_cons_succ]
  refine wpAnyH_take (i:=5) (v:=(.pointer (some ⟨w.heap.size,31,none⟩))) rfl (by kernel_rfl) (by kernel_rfl) (by kernel_rfl) (fun _ _ _ h=>h) (Or.inl ⟨by rfl,fun wz hz=>by skip;go_simp⟩) hH ?_
  try simp only [Act.put,List.getElem_toArray,List.getElem_cons_succ,List.getElem_cons_zero,List.setIfInBounds_toArray,List.set_cons_zero,List.set_cons_succ]
  refine wpAnyH_take (i:=6) (v:=(.agg (sgL q1 false).toArray)) rfl (by kernel_rfl) (by kernel_rfl) (by kernel_rfl) (fun _ _ _ h=>h) (yld88 w.heap.size 31 q1 false rfl ⟨_,rfl,rfl⟩ (fun wz hz=>fr_lo (hz.2.1))) hH ?_
  try simp only [Act.put,List.getElem_toArray,List.getElem_cons_succ,List.getElem_cons_zero,List.setIfInBounds_toArray,List.set_cons_zero,List.set_cons_succ]
  refine wpAnyH_take (i:=7) (v:=(.pointer (some ⟨w.heap.size + 1,0,none⟩))) rfl (by kernel_rfl) (by kernel_rfl) (by kernel_rfl) (fun _ _ _ h=>h) (Or.inl ⟨by rfl,fun wz hz=>by skip;go_simp⟩) hH ?_
  try simp only [Act.put,List.getElem_toArray,List.getElem_cons_succ,List.getElem_cons_zero,List.setIfInBounds_toArray,List.set_cons_zero,List.set_cons_succ]
  refine wpAnyH_take (i:=8) (v:=(.agg (sgL p2 s2).toArray)) rfl (by kernel_rfl) (by kernel_rfl) (by kernel_rfl) (fun _ _ _ h=>h) (yld88 (w.heap.size + 1) 0 p2 s2 rfl ⟨_,rfl,rfl⟩ (fun wz hz=>fr_up (hz.2.2.1))) hH ?_
  try simp only [Act.put,List.getElem_toArray,List.getElem_cons_succ,List.getElem_cons_zero,List.setIfInBounds_toArray,List.set_cons_zero,List.set_cons_succ]
  refine wpAnyH_ready (rs:=[4]) (by kernel_rfl) (by simp) ?_
  refine AllReadyH.cons rfl (fun K hK=>?_) AllReadyH.nil
  simp only [List.getElem_toArray,List.getElem_cons_succ,List.getElem_cons_zero]
  rw [if_pos (by rfl)]
  go_simp
  refine (C1.out _).mono ?_;rintro e w1 ⟨rfl,hb1⟩
  try simp only []
  refine hK.out _ _ ?_ (fun hH1=>?_)
  · exact ⟨(hH.1).trans (hb1.mono (hH.1).size),range_keep hH.2.1 hb1,range_keep hH.2.2.1 hb1,there_keep hH.2.2.2 hb1⟩
  clear hK K
  try simp only [Act.put,List.getElem_toArray,List.getElem_cons_succ,List.getElem_cons_zero,List.setIfInBounds_toArray,List.set_cons_zero,List.set_cons_succ]
  refine wpAnyH_ready (rs:=[9]) (by kernel_rfl) (by simp) ?_
  refine AllReadyH.cons rfl (fun K hK=>?_) AllReadyH.nil
  simp only [List.getElem_toArray,List.getElem_cons_succ,List.getElem_cons_zero]
  rw [if_pos (by rfl)]
  go_simp
  refine (C2.out _).mono ?_;rintro e w2 ⟨rfl,hb2⟩
  try simp only []
  refine hK.out _ _ ?_ (fun hH2=>?_)
  · exact ⟨(hH1.1).trans (hb2.mono (hH1.1).size),range_keep hH1.2.1 hb2,range_keep hH1.2.2.1 hb2,there_keep hH1.2.2.2 hb2⟩
  clear hK K
  try simp only [Act.put,List.getElem_toArray,List.getElem_cons_succ,List.getElem_cons_zero,List.setIfInBounds_toArray,List.set_cons_zero,List.set_cons_succ]
  refine wpAnyH_ready (rs:=[10]) (by kernel_rfl) (by simp) ?_
  refine AllReadyH.cons rfl (fun K hK=>?_) AllReadyH.nil
  simp only [List.getElem_toArray,List.getElem_cons_succ,List.getElem_cons_zero]
  rw [if_pos (by rfl)]
  go_simp
  refine (C3.out _).mono ?_;rintro e w3 ⟨rfl,hb3⟩
  try simp only []
  refine hK.out _ _ ?_ (fun hH3=>?_)
  · exact ⟨(hH2.1).trans (hb3.mono (hH2.1).size),range_keep hH2.2.1 hb3,range_keep hH2.2.2.1 hb3,there_keep hH2.2.2.2 hb3⟩
  clear hK K
  try simp only [Act.put,List.getElem_toArray,List.getElem_cons_succ,List.getElem_cons_zero,List.setIfInBounds_toArray,List.set_cons_zero,List.set_cons_succ]
  refine wpAnyH_ready (rs:=[11]) (by kernel_rfl) (by simp) ?_
  refine AllReadyH.cons rfl (fun K hK=>?_) AllReadyH.nil
  simp only [List.getElem_toArray,List.getElem_cons_succ,List.getElem_cons_zero]
  rw [if_pos (by rfl)]
  with_reducible refine wst115 (w.heap.size + 2) 0 a b c false ?_ hH3.2.2.2 ?_
  · exact ⟨_,_,rfl,rfl,rfl⟩
  refine hK.out _ _ ?_ (fun hH4=>?_)
  · exact ⟨below_set hH3.1 (by omega) _ _,range_setk hH3.2.1 (by first | trivial | omega),range_setk hH3.2.2.1 (by first | trivial | omega),there_setk hH3.2.2.2 (by first | trivial | omega)⟩
  clear hK K
  try simp only [Act.put]
  refine wpAnyH_done (by kernel_rfl) ?_ _
  go_wp2
  exact ret115 Tryz.results108 (w.heap.size + 2) 0 rfl a b c false (range_set hH3.2.2.2 (by rw [frL_len])) rfl ⟨rfl,hH4.1⟩
end
section
open Go.RowKit
def cmpF (p1 : Nat) (s1 : Bool) (q1 : Nat) (p2 : Nat) (s2 : Bool) (q2 : Nat) : Int :=
  if (p1 = p2/\s1 = s2)/\q1 = q2 then 0 else cmpS (p1 * q2) (mulS s1 false (p1 * q2)) (p2 * q1) (mulS s2 false (p2 * q1))
set_option maxHeartbeats 4000000 in
set_option maxRecDepth 20000 in
theorem compare_frac (p1 : Nat) (s1 : Bool) (q1 : Nat) (p2 : Nat) (s2 : Bool) (q2 : Nat) (h1 : p1 < bb ^ 14) (h2 : q1 < bb ^ 14) (h3 : p2 < bb ^ 14) (h4 : q2 < bb ^ 14) (w : World) :
    Calls Tryz.prog 111 #[.agg (frL p1 s1 q1 false).toArray,.agg (frL p2 s2 q2 false).toArray] w fun e w'=>e = .returned (.int .i64 (cmpF p1 s1 q1 p2 s2 q2))/\Below w.heap.size w w':=by
  have C1:=Lib.hid (fun w=>mulS_any p1 q2 s1 false h1 h4 w)
  have C2:=Lib.hid (fun w=>mulS_any p2 q1 s2 false h3 h2 w)
  have C3:=Lib.hid (fun w=>compareS_any (p1 * q2) (p2 * q1) (mulS s1 false (p1 * q2)) (mulS s2 false (p2 * q1)) (lt30 (lt28 h1 h4)) (lt30 (lt28 h3 h2)) w)
  have he:=fun w=>eq115 9995 p1 s1 q1 false p2 s2 q2 false (big_of h1) (big_of h2) (big_of h3) (big_of h4) w
  simp only [Nat.reduceAdd] at he
  have HB:=Lib.hid (show Below w.heap.size w ((w.alloc (.cells (frL p1 s1 q1 false).toArray 115)).alloc (.cells (frL p2 s2 q2 false).toArray 115)) from ((Below.refl w.heap.size w).alloc (Nat.le_refl _) _).alloc (by simp) _)
  have HR1:=Lib.hid (show ((w.alloc (.cells (frL p1 s1 q1 false).toArray 115)).alloc (.cells (frL p2 s2 q2 false).toArray 115)).drew.rangeAt w.heap.size 0 (frL p1 s1 q1 false) from World.rangeAt_alloc (range_new w _ 115) _)
  have HR2:=Lib.hid (show ((w.alloc (.cells (frL p1 s1 q1 false).toArray 115)).alloc (.cells (frL p2 s2 q2 false).toArray 115)).drew.rangeAt (w.heap.size + 1) 0 (frL p2 s2 q2 false) from range_at (by simp) _ 115)
  have HR3:=Lib.hid (show ((w.alloc (.cells (frL p1 s1 q1 false).toArray 115)).alloc (.cells (frL p2 s2 q2 false).toArray 115)).rangeAt w.heap.size 0 (frL p1 s1 q1 false) from World.rangeAt_alloc (range_new w _ 115) _)
  have HR4:=Lib.hid (show ((w.alloc (.cells (frL p1 s1 q1 false).toArray 115)).alloc (.cells (frL p2 s2 q2 false).toArray 115)).rangeAt (w.heap.size + 1) 0 (frL p2 s2 q2 false) from range_at (by simp) _ 115)
  unfold cmpF
  by_cases h : (p1 = p2/\s1 = s2)/\q1 = q2
  · rw [if_pos h]
    rw [show (decide (p1 = p2) && (s1 == s2) && (decide (q1 = q2) && (false == false))) = true by simp [h.1.1,h.1.2,h.2]] at he
    clear h h1 h2 h3 h4 C1 C2 C3
    go_enter Tryz.func111,Tryz.ntmps111
    go_wp2_with (first
      | ((with_reducible refine ld115 w.heap.size 0 p1 s1 q1 false ?_ ?_ ?_);(· exact ⟨rfl,_,rfl,rfl⟩);· exact HR3.out)
      | ((with_reducible refine ld115 (w.heap.size + 1) 0 p2 s2 q2 false ?_ ?_ ?_);(· exact ⟨rfl,_,rfl,rfl⟩);· exact HR4.out))
    go_ret
    exact ⟨rfl,HB.out⟩
  · rw [if_neg h]
    rw [show (decide (p1 = p2) && (s1 == s2) && (decide (q1 = q2) && (false == false))) = false by
      cases hb : (decide (p1 = p2) && (s1 == s2) && (decide (q1 = q2) && (false == false)))
      · rfl
      · simp only [Bool.and_eq_true,decide_eq_true_eq,beq_iff_eq] at hb;exact absurd ⟨hb.1,hb.2.1⟩ h] at he
    obtain ⟨r,hr⟩ : ∃ r,cmpS (p1 * q2) (mulS s1 false (p1 * q2)) (p2 * q1) (mulS s2 false (p2 * q1)) = r:=⟨_,rfl⟩
    rw [hr] at C3 ⊢
    clear h h1 h2 h3 h4 hr
    go_enter Tryz.func111,Tryz.ntmps111
    go_wp2_with (first
      | ((with_reducible refine ld115 w.heap.size 0 p1 s1 q1 false ?_ ?_ ?_);(· exact ⟨rfl,_,rfl,rfl⟩);· exact HR3.out)
      | ((with_reducible refine ld115 (w.heap.size + 1) 0 p2 s2 q2 false ?_ ?_ ?_);(· exact ⟨rfl,_,rfl,rfl⟩);· exact HR4.out))
    try simp only [Act.put,List.getElem_toArray,List.getElem_cons_succ,List.getElem_cons_zero,List.setIfInBounds_toArray,List.set_cons_zero,List.set_cons_succ]
    refine wp_region_held_drew (S:=(fun w'=>Below w.heap.size w w'/\w'.rangeAt w.heap.size 0 (frL p1 s1 q1 false)/\w'.rangeAt (w.heap.size + 1) 0 (frL p2 s2 q2 false))) (by kernel_rfl) ?_ (fun hH=>?_)
    · exact ⟨HB.out.drew,HR1.out,HR2.out⟩
    try dsimp only at hH
    refine wpAnyH_take (i:=0) (v:=(.pointer (some ⟨w.heap.size,0,none⟩))) rfl (by kernel_rfl) (by kernel_rfl) (by kernel_rfl) (fun _ _ _ h=>h) (Or.inl ⟨by rfl,fun wz hz=>by skip;go_simp⟩) hH ?_
    try simp only [Act.put,List.getElem_toArray,List.getElem_cons_zero,List.setIfInBounds_toArray,List.set_cons_zero,List.set_cons_succ]
    refine wpAnyH_take (i:=1) (v:=(.agg (sgL p1 s1).toArray)) rfl (by kernel_rfl) (by kernel_rfl) (by kernel_rfl) (fun _ _ _ h=>h) (yld88 w.heap.size 0 p1 s1 rfl ⟨_,rfl,rfl⟩ (fun wz hz=>fr_up (hz.2.1))) hH ?_
    try simp only [Act.put,List.getElem_toArray,List.getElem_cons_succ,List.getElem_cons_zero,List.setIfInBounds_toArray,List.set_cons_zero,List.set_cons_succ]
    refine wpAnyH_take (i:=2) (v:=(.pointer (some ⟨w.heap.size + 1,31,none⟩))) rfl (by kernel_rfl) (by kernel_rfl) (by kernel_rfl) (fun _ _ _ h=>h) (Or.inl ⟨by rfl,fun wz hz=>by skip;go_simp⟩) hH ?_
    try simp only [Act.put,List.getElem_toArray,List.getElem_cons_succ,List.getElem_cons_zero,List.setIfInBounds_toArray,List.set_cons_zero,List.set_cons_succ]
    refine wpAnyH_take (i:=3) (v:=(.agg (sgL q2 false).toArray)) rfl (by kernel_rfl) (by kernel_rfl) (by kernel_rfl) (fun _ _ _ h=>h) (yld88 (w.heap.size + 1) 31 q2 false rfl ⟨_,rfl,rfl⟩ (fun wz hz=>fr_lo (hz.2.2))) hH ?_
    try simp only [Act.put,List.getElem_toArray,List.getElem_cons_succ,List.getElem_cons_zero,List.setIfInBounds_toArray,List.set_cons_zero,List.set_cons_succ]
    refine wpAnyH_take (i:=5) (v:=(.pointer (some ⟨w.heap.size + 1,0,none⟩))) rfl (by kernel_rfl) (by kernel_rfl) (by kernel_rfl) (fun _ _ _ h=>h) (Or.inl ⟨by rfl,fun wz hz=>by skip;go_simp⟩) hH ?_
    try simp only [Act.put,List.getElem_toArray,List.getElem_cons_succ,List.getElem_cons_zero,List.setIfInBounds_toArray,List.set_cons_zero,List.set_cons_succ]
    refine wpAnyH_take (i:=6) (v:=(.agg (sgL p2 s2).toArray)) rfl (by kernel_rfl) (by kernel_rfl) (by kernel_rfl) (fun _ _ _ h=>h) (yld88 (w.heap.size + 1) 0 p2 s2 rfl ⟨_,rfl,rfl⟩ (fun wz hz=>fr_up (hz.2.2))) hH ?_
    try simp only [Act.put,List.getElem_toArray,List.getElem_cons_succ,List.getElem_cons_zero,List.setIfInBounds_toArray,List.set_cons_zero,List.set_cons_succ]
    refine wpAnyH_take (i:=7) (v:=(.pointer (some ⟨w.heap.size,31,none⟩))) rfl (by kernel_rfl) (by kernel_rfl) (by kernel_rfl) (fun _ _ _ h=>h) (Or.inl ⟨by rfl,fun wz hz=>by skip;go_simp⟩) hH ?_
    try simp only [Act.put,List.getElem_toArray,List.getElem_cons_succ,List.getElem_cons_zero,List.setIfInBounds_toArray,List.set_cons_zero,List.set_cons_succ]
    refine wpAnyH_take (i:=8) (v:=(.agg (sgL q1 false).toArray)) rfl (by kernel_rfl) (by kernel_rfl) (by kernel_rfl) (fun _ _ _ h=>h) (yld88 w.heap.size 31 q1 false rfl ⟨_,rfl,rfl⟩ (fun wz hz=>fr_lo (hz.2.1))) hH ?_
    try simp only [Act.put,List.getElem_toArray,List.getElem_cons_succ,List.getElem_cons_zero,List.setIfInBounds_toArray,List.set_cons_zero,List.set_cons_succ]
    refine wpAnyH_ready (rs:=[4]) (by kernel_rfl) (by simp) ?_
    refine AllReadyH.cons rfl (fun K hK=>?_) AllReadyH.nil
    simp only [List.getElem_toArray,List.getElem_cons_succ,List.getElem_cons_zero]
    rw [if_pos (by rfl)]
    go_simp
    refine (C1.out _).mono ?_;rintro e w1 ⟨rfl,hb1⟩
    try simp only []
    refine hK.out _ _ ?_ (fun hH1=>?_)
    · exact ⟨(hH.1).trans (hb1.mono (hH.1).size),range_keep hH.2.1 hb1,range_keep hH.2.2 hb1⟩
    clear hK K
    try simp only [Act.put,List.getElem_toArray,List.getElem_cons_succ,List.getElem_cons_zero,List.setIfInBounds_toArray,List.set_cons_zero,List.set_cons_succ]
    refine wpAnyH_ready (rs:=[9]) (by kernel_rfl) (by simp) ?_
    refine AllReadyH.cons rfl (fun K hK=>?_) AllReadyH.nil
    simp only [List.getElem_toArray,List.getElem_cons_succ,List.getElem_cons_zero]
    rw [if_pos (by rfl)]
    go_simp
    refine (C2.out _).mono ?_;rintro e w2 ⟨rfl,hb2⟩
    try simp only []
    refine hK.out _ _ ?_ (fun hH2=>?_)
    · exact ⟨(hH1.1).trans (hb2.mono (hH1.1).size),range_keep hH1.2.1 hb2,range_keep hH1.2.2 hb2⟩
    clear hK K
    try simp only [Act.put,List.getElem_toArray,List.getElem_cons_succ,List.getElem_cons_zero,List.setIfInBounds_toArray,List.set_cons_zero,List.set_cons_succ]
    refine wpAnyH_ready (rs:=[10]) (by kernel_rfl) (by simp) ?_
    refine AllReadyH.cons rfl (fun K hK=>?_) AllReadyH.nil
    simp only [List.getElem_toArray,List.getElem_cons_succ,List.getElem_cons_zero]
    rw [if_pos (by rfl)]
    go_simp
    refine (C3.out _).mono ?_;rintro e w3 ⟨rfl,hb3⟩
    try simp only []
    refine hK.out _ _ ?_ (fun hH3=>?_)
    · exact ⟨(hH2.1).trans (hb3.mono (hH2.1).size),range_keep hH2.2.1 hb3,range_keep hH2.2.2 hb3⟩
    clear hK K
    try simp only [Act.put,List.getElem_toArray,List.getElem_cons_succ,List.getElem_cons_zero,List.setIfInBounds_toArray,List.set_cons_zero,List.set_cons_succ]
    refine wpAnyH_take (i:=11) (v:=(.int .i64 r)) rfl (by kernel_rfl) (by kernel_rfl) (by kernel_rfl) (fun _ _ _ h=>h) (Or.inl ⟨by rfl,fun wz hz=>by skip;go_simp⟩) hH3 ?_
    try simp only [Act.put,List.getElem_toArray,List.getElem_cons_succ,List.getElem_cons_zero,List.setIfInBounds_toArray,List.set_cons_zero,List.set_cons_succ]
    refine wpAnyH_done (by kernel_rfl) ?_ _
    go_wp2
    go_ret
    exact ⟨rfl,hH3.1⟩
end
end Go.Proofs.YtpbegoflpfdajaaGreatDoor
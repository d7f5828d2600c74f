/- WHAT IS PROVED: contracts of functions of the numbers package and laws for them, used by the last text of this claim. CONDITIONS: stated at each theorem. -/
import Derived.Test.YtpbegoflpfdajaaGreatDoorB23
namespace Go.Proofs.YtpbegoflpfdajaaGreatDoor
open Go.RowKit

set_option maxHeartbeats 4000000 in
set_option maxRecDepth 20000 in
theorem minus_frac (p1 : Nat) (s1 : Bool) (q1 : Nat) (p2 : Nat) (s2 : Bool) (q2 : Nat) (h1 : p1 < bb ^ 14) (h2 : q1 < bb ^ 14) (h3 : p2 < bb ^ 14) (h4 : q2 < bb ^ 14) (h0 : 0 < q1) (h5 : 0 < q2) (w : World) :
    Calls Tryz.prog 103 #[.agg (frL p1 s1 q1 false).toArray,.agg (frL p2 s2 q2 false).toArray] w fun e w'=>e = .returned (.agg (frR (addF p1 s1 q1 p2 (!s2 && !decide (p2 = 0)) q2).1 (addF p1 s1 q1 p2 (!s2 && !decide (p2 = 0)) q2).2 (q1 * q2) false).toArray)/\Below w.heap.size w w':=by
  have c1:=fun w=>negated_any p2 s2 (big_of h3) w
  obtain ⟨s3,hs3⟩ : ∃ s,(!s2 && !decide (p2 = 0)) = s:=⟨_,rfl⟩
  rw [hs3] at c1 ⊢
  have c2:=fun w=>plus_frac p1 s1 q1 p2 s3 q2 h1 h2 h3 h4 h0 h5 w
  unfold frR at c2 ⊢
  obtain ⟨⟨n,s⟩,hns⟩ : ∃ x,addF p1 s1 q1 p2 s3 q2 = x:=⟨_,rfl⟩
  rw [hns] at c2 ⊢
  dsimp only at c2 ⊢
  obtain ⟨a,ha⟩ : ∃ a,n / Nat.gcd n (q1 * q2) = a:=⟨_,rfl⟩
  obtain ⟨b,hb⟩ : ∃ b,(ratS n s false && !decide (n / Nat.gcd n (q1 * q2) = 0)) = b:=⟨_,rfl⟩
  obtain ⟨c,hc⟩ : ∃ c,q1 * q2 / Nat.gcd n (q1 * q2) = c:=⟨_,rfl⟩
  rw [hb,ha,hc] at c2 ⊢
  have C1:=Lib.hid c1;have C2:=Lib.hid c2
  have HB:=Lib.hid (show Below w.heap.size w (((w.alloc (.cells (frL p1 s1 q1 false).toArray 115)).alloc (.cells (frL p2 s2 q2 false).toArray 115)).alloc (.cells (frL 0 false 0 false).toArray 115)) from (((Below.refl w.heap.size w).alloc (Nat.le_refl _) _).alloc (by simp) _).alloc (by simp;omega) _)
  have HR1:=Lib.hid (show (((w.alloc (.cells (frL p1 s1 q1 false).toArray 115)).alloc (.cells (frL p2 s2 q2 false).toArray 115)).alloc (.cells (frL 0 false 0 false).toArray 115)).drew.rangeAt w.heap.size 0 (frL p1 s1 q1 false) from World.rangeAt_alloc (World.rangeAt_alloc (range_new w _ 115) _) _)
  have HR2:=Lib.hid (show (((w.alloc (.cells (frL p1 s1 q1 false).toArray 115)).alloc (.cells (frL p2 s2 q2 false).toArray 115)).alloc (.cells (frL 0 false 0 false).toArray 115)).drew.rangeAt (w.heap.size + 1) 0 (frL p2 s2 q2 false) from World.rangeAt_alloc (range_at (by simp) _ 115) _)
  have HT:=Lib.hid (show (((w.alloc (.cells (frL p1 s1 q1 false).toArray 115)).alloc (.cells (frL p2 s2 q2 false).toArray 115)).alloc (.cells (frL 0 false 0 false).toArray 115)).drew.there (w.heap.size + 2) 0 62 from there_at (by simp) _ 115 (by rw [frL_len]))
  clear c1 c2 ha hb hc hns hs3 h1 h2 h3 h4 h0 h5
  go_enter Tryz.func103,Tryz.ntmps103
  go_wp2_with (first
    | ((with_reducible refine al_zb 115 _ (w.heap.size + 2) ?_ ?_ z115 ?_);(· exact ⟨rfl,rfl⟩);· (simp;done)))
  try simp only [Act.put,List.setIfInBounds_toArray,List.set_cons_zero,List.set_cons_succ]
  refine wp_region_held_drew (S:=(fun w'=>Below w.heap.size w w'/\w'.rangeAt w.heap.size 0 (frL p1 s1 q1 false)/\w'.rangeAt (w.heap.size + 1) 0 (frL p2 s2 q2 false)/\w'.there (w.heap.size + 2) 0 62)) (by kernel_rfl) ?_ (fun hH=>?_)
  · exact ⟨HB.out.drew,HR1.out,HR2.out,HT.out⟩
  try dsimp only at hH
  refine wpAnyH_take (i:=0) (v:=(.agg (frL p1 s1 q1 false).toArray)) rfl (by kernel_rfl) (by kernel_rfl) (by kernel_rfl) (fun _ _ _ h=>h) (yld115 w.heap.size 0 p1 s1 q1 false rfl ⟨_,rfl,rfl⟩ (fun wz hz=>hz.2.1)) hH ?_
  try simp only [Act.put,List.getElem_toArray,List.getElem_cons_zero,List.setIfInBounds_toArray,List.set_cons_zero,List.set_cons_succ]
  refine wpAnyH_take (i:=1) (v:=(.pointer (some ⟨w.heap.size + 1,0,none⟩))) rfl (by kernel_rfl) (by kernel_rfl) (by kernel_rfl) (fun _ _ _ h=>h) (Or.inl ⟨by rfl,fun wz hz=>by skip;go_simp⟩) hH ?_
  try simp only [Act.put,List.getElem_toArray,List.getElem_cons_succ,List.getElem_cons_zero,List.setIfInBounds_toArray,List.set_cons_zero,List.set_cons_succ]
  refine wpAnyH_take (i:=2) (v:=(.agg (sgL p2 s2).toArray)) rfl (by kernel_rfl) (by kernel_rfl) (by kernel_rfl) (fun _ _ _ h=>h) (yld88 (w.heap.size + 1) 0 p2 s2 rfl ⟨_,rfl,rfl⟩ (fun wz hz=>fr_up (hz.2.2.1))) hH ?_
  try simp only [Act.put,List.getElem_toArray,List.getElem_cons_succ,List.getElem_cons_zero,List.setIfInBounds_toArray,List.set_cons_zero,List.set_cons_succ]
  refine wpAnyH_take (i:=4) (v:=(.pointer (some ⟨w.heap.size + 1,31,none⟩))) rfl (by kernel_rfl) (by kernel_rfl) (by kernel_rfl) (fun _ _ _ h=>h) (Or.inl ⟨by rfl,fun wz hz=>by skip;go_simp⟩) hH ?_
  try simp only [Act.put,List.getElem_toArray,List.getElem_cons_succ,List.getElem_cons_zero,List.setIfInBounds_toArray,List.set_cons_zero,List.set_cons_succ]
  refine wpAnyH_take (i:=5) (v:=(.agg (sgL q2 false).toArray)) rfl (by kernel_rfl) (by kernel_rfl) (by kernel_rfl) (fun _ _ _ h=>h) (yld88 (w.heap.size + 1) 31 q2 false rfl ⟨_,rfl,rfl⟩ (fun wz hz=>fr_lo (hz.2.2.1))) hH ?_
  try simp only [Act.put,List.getElem_toArray,List.getElem_cons_succ,List.getElem_cons_zero,List.setIfInBounds_toArray,List.set_cons_zero,List.set_cons_succ]
  refine wpAnyH_ready (rs:=[3]) (by kernel_rfl) (by simp) ?_
  refine AllReadyH.cons rfl (fun K hK=>?_) AllReadyH.nil
  simp only [List.getElem_toArray,List.getElem_cons_succ,List.getElem_cons_zero]
  rw [if_pos (by rfl)]
  go_simp
  refine (C1.out _).mono ?_;rintro e w1 ⟨rfl,hb1⟩
  try simp only []
  refine hK.out _ _ ?_ (fun hH1=>?_)
  · exact ⟨(hH.1).trans (hb1.mono (hH.1).size),range_keep hH.2.1 hb1,range_keep hH.2.2.1 hb1,there_keep hH.2.2.2 hb1⟩
  clear hK K
  try simp only [Act.put,List.getElem_toArray,List.getElem_cons_succ,List.getElem_cons_zero,List.setIfInBounds_toArray,List.set_cons_zero,List.set_cons_succ]
  refine wpAnyH_take (i:=6) (v:=(.agg (frL p2 s3 q2 false).toArray)) rfl (by kernel_rfl) (by kernel_rfl) (by kernel_rfl) (fun _ _ _ h=>h) (yb115 p2 s3 q2 false _ _ rfl rfl rfl rfl) hH1 ?_
  try simp only [Act.put,List.getElem_toArray,List.getElem_cons_succ,List.getElem_cons_zero,List.setIfInBounds_toArray,List.set_cons_zero,List.set_cons_succ]
  refine wpAnyH_ready (rs:=[7]) (by kernel_rfl) (by simp) ?_
  refine AllReadyH.cons rfl (fun K hK=>?_) AllReadyH.nil
  simp only [List.getElem_toArray,List.getElem_cons_succ,List.getElem_cons_zero]
  rw [if_pos (by rfl)]
  go_simp
  refine (C2.out _).mono ?_;rintro e w2 ⟨rfl,hb2⟩
  try simp only []
  refine hK.out _ _ ?_ (fun hH2=>?_)
  · exact ⟨(hH1.1).trans (hb2.mono (hH1.1).size),range_keep hH1.2.1 hb2,range_keep hH1.2.2.1 hb2,there_keep hH1.2.2.2 hb2⟩
  clear hK K
  try simp only [Act.put,List.getElem_toArray,List.getElem_cons_succ,List.getElem_cons_zero,List.setIfInBounds_toArray,List.set_cons_zero,List.set_cons_succ]
  refine wpAnyH_ready (rs:=[8]) (by kernel_rfl) (by simp) ?_
  refine AllReadyH.cons rfl (fun K hK=>?_) AllReadyH.nil
  simp only [List.getElem_toArray,List.getElem_cons_succ,List.getElem_cons_zero]
  rw [if_pos (by rfl)]
  with_reducible refine wst115 (w.heap.size + 2) 0 a b c false ?_ hH2.2.2.2 ?_
  · exact ⟨_,_,rfl,rfl,rfl⟩
  refine hK.out _ _ ?_ (fun hH3=>?_)
  · exact ⟨below_set hH2.1 (by omega) _ _,range_setk hH2.2.1 (by first | trivial | omega),range_setk hH2.2.2.1 (by first | trivial | omega),there_setk hH2.2.2.2 (by first | trivial | omega)⟩
  clear hK K
  try simp only [Act.put]
  refine wpAnyH_done (by kernel_rfl) ?_ _
  go_wp2
  exact ret115 Tryz.results103 (w.heap.size + 2) 0 rfl a b c false (range_set hH2.2.2.2 (by rw [frL_len])) rfl ⟨rfl,hH3.1⟩
end Go.Proofs.YtpbegoflpfdajaaGreatDoor

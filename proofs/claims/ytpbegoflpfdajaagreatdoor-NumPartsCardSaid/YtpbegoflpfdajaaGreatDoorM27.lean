/- WHAT IS PROVED: contracts of functions of the numbers package and laws for them, used by the last text of this claim. CONDITIONS: stated at each theorem. -/
import Derived.Test.YtpbegoflpfdajaaGreatDoorM26
namespace Go.Proofs.YtpbegoflpfdajaaGreatDoor
open Go.RowKit

def ckL2 (x y : ByteArray) : Int:=firstE [ckL x.data.toList,ckL y.data.toList]
theorem nws_below {w w' : World} {n : Nat} {s : Bool} (hb : Below ((w.alloc (.cells (sgL 0 false).toArray 88)).setCells w.heap.size 0 (sgL n s)).heap.size ((w.alloc (.cells (sgL 0 false).toArray 88)).setCells w.heap.size 0 (sgL n s)) w') : Below w.heap.size w w' :=
  (nws_old w n s).trans (hb.mono (nws_old w n s).size)
set_option maxHeartbeats 2000000 in
theorem real_err (x y : ByteArray) (w : World) (hg : Gl w) (h1 : ckL2 x y ≠ 0) : Calls Tryz.prog 47 #[.string x,.string y] w fun e w'=>e = .returned (errT (ckL2 x y))/\Below w.heap.size w w':=by
  have cc:=checks_two x y w hg
  rw [show firstE [ckL x.data.toList,ckL y.data.toList] = ckL2 x y from rfl] at cc
  obtain ⟨E,hE⟩ : ∃ E,ckL2 x y = E:=⟨_,rfl⟩
  rw [hE] at cc h1 ⊢
  have td : (E != 0) = true:=by simpa using h1
  have Cc:=Lib.hid cc
  clear cc hE h1 hg
  go_enter Tryz.func47,Tryz.ntmps47
  go_wp2_with (first
    | (go_at_call 85;(with_reducible refine (Cc.out).mono ?_);rintro e w1 ⟨rfl,hb1⟩;have HB1:=Lib.hid (below2 hb1);clear hb1))
  go_ret2
  exact ⟨rfl,HB1.out⟩
set_option maxHeartbeats 2000000 in
theorem real_zero (x y : ByteArray) (w : World) (hg : Gl w) (h1 : ckL x.data.toList = 0) (h2 : ckL y.data.toList = 0) (h3 : intM y.data.toList = 0) : Calls Tryz.prog 47 #[.string x,.string y] w fun e w'=>e = .returned (errT 30)/\Below w.heap.size w w':=by
  have cc:=checks_two x y w hg
  rw [h1,h2,show firstE [0,0] = 0 from rfl] at cc
  have Cc:=Lib.hid cc
  have HG:=Lib.hid hg
  have C2:=Lib.hid (fun w g=>parse_ck y h2 w g)
  have Cz:=Lib.hid (fun w=>isZero_any (intM y.data.toList) (intM_lt _ h2) w)
  rw [show decide (intM y.data.toList = 0) = true by simpa using h3] at Cz
  generalize intM y.data.toList = p2 at *
  generalize intS y.data.toList = s2 at *
  clear cc h1 h2 h3 hg
  go_enter Tryz.func47,Tryz.ntmps47
  go_wp2_with (first
    | (go_at_call 85;(with_reducible refine (Cc.out).mono ?_);rintro e w1 ⟨rfl,hb1⟩;have HB1:=Lib.hid (below2 hb1);have HG1:=Lib.hid (HG.out.keep2 hb1);clear hb1)
    | (go_at_call 72;(with_reducible refine (C2.out _ HG1.out).mono ?_);rintro e w2 ⟨rfl,hb2⟩;have HB2:=Lib.hid (HB1.out.trans (hb2.mono HB1.out.size));have HG2:=Lib.hid (HG1.out.keep hb2);clear hb2)
    | ((with_reducible refine al_zb 88 _ w2.heap.size ?_ ?_ z88 ?_);(· exact ⟨rfl,rfl⟩);· rfl)
    | ((with_reducible refine st88 w2.heap.size 0 p2 s2 ?_ ?_ ?_);(· exact ⟨rfl,_,_,rfl,rfl,rfl⟩);· exact there_at rfl _ 88 (by rw [sgL_len]))
    | ((with_reducible refine ld86 w2.heap.size 0 p2 ?_ ?_ ?_);(· exact ⟨rfl,_,rfl,rfl⟩);· exact (range_sg (nws_at w2 p2 s2)).1)
    | (go_at_call 86;(with_reducible refine (Cz.out _).mono ?_);rintro e w3 ⟨rfl,hb3⟩;have HB3:=Lib.hid (HB2.out.trans ((nws_below hb3).mono HB2.out.size));have HR3:=Lib.hid (range_keep (nws_at w2 p2 s2) hb3);have HG3:=Lib.hid (HG2.out.keep (nws_below hb3));clear hb3))
  go_ret2
  exact ⟨rfl,HB3.out⟩
set_option maxHeartbeats 4000000 in
set_option maxRecDepth 20000 in
theorem real_ok (x y : ByteArray) (w : World) (hg : Gl w) (h1 : ckL x.data.toList = 0) (h2 : ckL y.data.toList = 0) (h3 : intM y.data.toList ≠ 0) : Calls Tryz.prog 47 #[.string x,.string y] w fun e w'=>e = .returned (resR (intM x.data.toList) (intS x.data.toList) (intM y.data.toList) (intS y.data.toList))/\Below w.heap.size w w':=by
  have cc:=checks_two x y w hg
  rw [h1,h2,show firstE [0,0] = 0 from rfl] at cc
  have Cc:=Lib.hid cc
  have HG:=Lib.hid hg
  have C1:=Lib.hid (fun w g=>parse_ck x h1 w g)
  have C2:=Lib.hid (fun w g=>parse_ck y h2 w g)
  have Cz:=Lib.hid (fun w=>isZero_any (intM y.data.toList) (intM_lt _ h2) w)
  rw [show decide (intM y.data.toList = 0) = false by simpa using h3] at Cz
  have c3:=fun w=>ratio_any (intM x.data.toList) (intS x.data.toList) (intM y.data.toList) (intS y.data.toList) (up29 (intM_small _ h1)) (up29 (intM_small _ h2)) (Nat.pos_of_ne_zero h3) w
  have c4:=fun w g=>fracResult_any (intM x.data.toList / Nat.gcd (intM x.data.toList) (intM y.data.toList)) (ratS (intM x.data.toList) (intS x.data.toList) (intS y.data.toList) && !decide (intM x.data.toList / Nat.gcd (intM x.data.toList) (intM y.data.toList) = 0)) (intM y.data.toList / Nat.gcd (intM x.data.toList) (intM y.data.toList)) false (rat_lt30 (up29 (intM_small _ h1))) (rat_lt30 (up29 (intM_small _ h2))) w g
  change ∀ w,Gl w->Calls Tryz.prog 109 _ w (fun e w'=>e = .returned (resR (intM x.data.toList) (intS x.data.toList) (intM y.data.toList) (intS y.data.toList))/\Below w.heap.size w w') at c4
  obtain ⟨R,hR⟩ : ∃ R,resR (intM x.data.toList) (intS x.data.toList) (intM y.data.toList) (intS y.data.toList) = R:=⟨_,rfl⟩
  have hR2 : ∃ a b,R = .tuple #[a,b]:=⟨_,_,hR.symm⟩
  rw [hR] at c4 ⊢
  obtain ⟨ra,rb,rfl⟩:=hR2
  have C3:=Lib.hid c3;have C4:=Lib.hid c4
  obtain ⟨V1,hV1⟩ : ∃ V,(sgL (intM x.data.toList) (intS x.data.toList)).toArray = V:=⟨_,rfl⟩
  rw [hV1] at C1 C3
  generalize Value.agg (frL (intM x.data.toList / Nat.gcd (intM x.data.toList) (intM y.data.toList)) (ratS (intM x.data.toList) (intS x.data.toList) (intS y.data.toList) && !decide (intM x.data.toList / Nat.gcd (intM x.data.toList) (intM y.data.toList) = 0)) (intM y.data.toList / Nat.gcd (intM x.data.toList) (intM y.data.toList)) false).toArray = V3 at C3 C4
  clear c3 c4 cc hR hV1 h1 h2 hg h3
  generalize intM y.data.toList = p2 at *
  generalize intS y.data.toList = s2 at *
  go_enter Tryz.func47,Tryz.ntmps47
  go_wp2_with (first
    | (go_at_call 85;(with_reducible refine (Cc.out).mono ?_);rintro e w1 ⟨rfl,hb1⟩;have HB1:=Lib.hid (below2 hb1);have HG1:=Lib.hid (HG.out.keep2 hb1);clear hb1)
    | (go_at_call 72;(with_reducible refine (C2.out _ HG1.out).mono ?_);rintro e w2 ⟨rfl,hb2⟩;have HB2:=Lib.hid (HB1.out.trans (hb2.mono HB1.out.size));have HG2:=Lib.hid (HG1.out.keep hb2);clear hb2)
    | ((with_reducible refine al_zb 88 _ w2.heap.size ?_ ?_ z88 ?_);(· exact ⟨rfl,rfl⟩);· rfl)
    | ((with_reducible refine st88 w2.heap.size 0 p2 s2 ?_ ?_ ?_);(· exact ⟨rfl,_,_,rfl,rfl,rfl⟩);· exact there_at rfl _ 88 (by rw [sgL_len]))
    | ((with_reducible refine ld86 w2.heap.size 0 p2 ?_ ?_ ?_);(· exact ⟨rfl,_,rfl,rfl⟩);· exact (range_sg (nws_at w2 p2 s2)).1)
    | (go_at_call 86;(with_reducible refine (Cz.out _).mono ?_);rintro e w3 ⟨rfl,hb3⟩;have HB3:=Lib.hid (HB2.out.trans ((nws_below hb3).mono HB2.out.size));have HR3:=Lib.hid (range_keep (nws_at w2 p2 s2) hb3);have HG3:=Lib.hid (HG2.out.keep (nws_below hb3));clear hb3))
  try simp only [Act.put,List.getElem_toArray,List.getElem_cons_succ,List.getElem_cons_zero,List.setIfInBounds_toArray,List.set_cons_zero,List.set_cons_succ]
  have HBx:=Lib.hid HB3.out.drew
  have HRx:=Lib.hid (show w3.drew.rangeAt w2.heap.size 0 (sgL p2 s2) from HR3.out)
  have HGx:=Lib.hid (gl_drew HG3.out)
  refine wp_region_held_drew (S:=(fun w'=>Below w.heap.size w w'/\w'.rangeAt w2.heap.size 0 (sgL p2 s2)/\Gl w')) (by kernel_rfl) ?_ (fun hH=>?_)
  · exact ⟨HBx.out,HRx.out,HGx.out⟩
  try dsimp only at hH
  refine wpAnyH_take (i:=0) (v:=(.string x)) rfl (by kernel_rfl) (by kernel_rfl) (by kernel_rfl) (fun _ _ _ h=>h) (Or.inl ⟨by rfl,fun wz hz=>by skip;go_simp⟩) hH ?_
  try simp only [Act.put,List.getElem_toArray,List.getElem_cons_zero,List.setIfInBounds_toArray,List.set_cons_zero,List.set_cons_succ]
  refine wpAnyH_take (i:=2) (v:=(.agg (sgL p2 s2).toArray)) rfl (by kernel_rfl) (by kernel_rfl) (by kernel_rfl) (fun _ _ _ h=>h) (yld88 w2.heap.size 0 p2 s2 rfl ⟨_,rfl,rfl⟩ (fun wz hz=>hz.2.1)) hH ?_
  try simp only [Act.put,List.getElem_toArray,List.getElem_cons_succ,List.getElem_cons_zero,List.setIfInBounds_toArray,List.set_cons_zero,List.set_cons_succ]
  refine wpAnyH_ready (rs:=[1]) (by kernel_rfl) (by simp) ?_
  refine AllReadyH.cons rfl (fun K hK=>?_) AllReadyH.nil
  simp only [List.getElem_toArray,List.getElem_cons_succ,List.getElem_cons_zero]
  rw [if_pos (by rfl)]
  go_simp
  refine (C1.out _ hH.2.2).mono ?_;rintro e w1 ⟨rfl,hb1⟩
  try simp only []
  refine hK.out _ _ ?_ (fun hH1=>?_)
  · exact ⟨(hH.1).trans (hb1.mono (hH.1).size),range_keep hH.2.1 hb1,gl_keep hH.2.2 hb1⟩
  clear hK K
  try simp only [Act.put,List.getElem_toArray,List.getElem_cons_succ,List.getElem_cons_zero,List.setIfInBounds_toArray,List.set_cons_zero,List.set_cons_succ]
  refine wpAnyH_ready (rs:=[3]) (by kernel_rfl) (by simp) ?_
  refine AllReadyH.cons rfl (fun K hK=>?_) AllReadyH.nil
  simp only [List.getElem_toArray,List.getElem_cons_succ,List.getElem_cons_zero]
  rw [if_pos (by rfl)]
  go_simp
  refine (C3.out _).mono ?_;rintro e w2 ⟨rfl,hb2⟩
  try simp only []
  refine hK.out _ _ ?_ (fun hH2=>?_)
  · exact ⟨(hH1.1).trans (hb2.mono (hH1.1).size),range_keep hH1.2.1 hb2,gl_keep hH1.2.2 hb2⟩
  clear hK K
  try simp only [Act.put,List.getElem_toArray,List.getElem_cons_succ,List.getElem_cons_zero,List.setIfInBounds_toArray,List.set_cons_zero,List.set_cons_succ]
  refine wpAnyH_ready (rs:=[4]) (by kernel_rfl) (by simp) ?_
  refine AllReadyH.cons rfl (fun K hK=>?_) AllReadyH.nil
  simp only [List.getElem_toArray,List.getElem_cons_succ,List.getElem_cons_zero]
  rw [if_pos (by rfl)]
  go_simp
  refine (C4.out _ hH2.2.2).mono ?_;rintro e w3 ⟨rfl,hb3⟩
  try simp only []
  refine hK.out _ _ ?_ (fun hH3=>?_)
  · exact ⟨(hH2.1).trans (hb3.mono (hH2.1).size),range_keep hH2.2.1 hb3,gl_keep hH2.2.2 hb3⟩
  clear hK K
  try simp only [Act.put,List.getElem_toArray,List.getElem_cons_succ,List.getElem_cons_zero,List.setIfInBounds_toArray,List.set_cons_zero,List.set_cons_succ]
  refine wpAnyH_take (i:=5) (v:=ra) rfl (by kernel_rfl) (by kernel_rfl) (by kernel_rfl) (fun _ _ _ h=>h) (Or.inl ⟨by rfl,fun wz hz=>by skip;go_simp⟩) hH3 ?_
  try simp only [Act.put,List.getElem_toArray,List.getElem_cons_succ,List.getElem_cons_zero,List.setIfInBounds_toArray,List.set_cons_zero,List.set_cons_succ]
  refine wpAnyH_take (i:=6) (v:=rb) rfl (by kernel_rfl) (by kernel_rfl) (by kernel_rfl) (fun _ _ _ h=>h) (Or.inl ⟨by rfl,fun wz hz=>by skip;go_simp⟩) hH3 ?_
  try simp only [Act.put,List.getElem_toArray,List.getElem_cons_succ,List.getElem_cons_zero,List.setIfInBounds_toArray,List.set_cons_zero,List.set_cons_succ]
  refine wpAnyH_take (i:=7) (v:=ra) rfl (by kernel_rfl) (by kernel_rfl) (by kernel_rfl) (fun _ _ _ h=>h) (Or.inl ⟨by rfl,fun wz hz=>by skip;go_simp⟩) hH3 ?_
  try simp only [Act.put,List.getElem_toArray,List.getElem_cons_succ,List.getElem_cons_zero,List.setIfInBounds_toArray,List.set_cons_zero,List.set_cons_succ]
  refine wpAnyH_take (i:=8) (v:=rb) rfl (by kernel_rfl) (by kernel_rfl) (by kernel_rfl) (fun _ _ _ h=>h) (Or.inl ⟨by rfl,fun wz hz=>by skip;go_simp⟩) hH3 ?_
  try simp only [Act.put,List.getElem_toArray,List.getElem_cons_succ,List.getElem_cons_zero,List.setIfInBounds_toArray,List.set_cons_zero,List.set_cons_succ]
  refine wpAnyH_done (by kernel_rfl) ?_ _
  go_wp2
  go_ret2
  exact ⟨rfl,hH3.1⟩

set_option maxHeartbeats 2000000 in
theorem parts_err (x : ByteArray) (hx : x.size < 4294967281) (w : World) (hg : Gl w) (h1 : ckR x.data.toList ≠ 0) : Calls Tryz.prog 49 #[.string x] w fun e w'=>e = .returned (.tuple #[.string ⟨#[]⟩,.string ⟨#[]⟩,.int .i64 (ckR x.data.toList)])/\Below w.heap.size w w':=by
  have cc:=checkReal_any x hx w hg
  obtain ⟨E,hE⟩ : ∃ E,ckR x.data.toList = E:=⟨_,rfl⟩
  rw [hE] at cc h1 ⊢
  have td : (E != 0) = true:=by simpa using h1
  have Cc:=Lib.hid cc
  have HG:=Lib.hid hg
  clear cc hE h1 hx hg
  go_enter Tryz.func49,Tryz.ntmps49
  go_wp2_with (first
    | (go_at_call 45;(with_reducible refine (Cc.out).mono ?_);rintro e w1 ⟨rfl,hb1⟩;have HB1:=Lib.hid hb1;have HG1:=Lib.hid (HG.out.keep hb1);clear hb1))
  go_ret3
  exact ⟨rfl,HB1.out⟩
set_option maxHeartbeats 4000000 in
set_option maxRecDepth 20000 in
theorem parts_ok (x : ByteArray) (hx : x.size < 4294967281) (w : World) (hg : Gl w) (h1 : ckR x.data.toList = 0) : Calls Tryz.prog 49 #[.string x] w fun e w'=>e = .returned (.tuple #[.string ⟨(sgText (frN x.data.toList) (frS x.data.toList)).toArray⟩,.string ⟨(sgText (frD x.data.toList) false).toArray⟩,.int .i64 0])/\Below w.heap.size w w':=by
  have cc:=checkReal_any x hx w hg
  rw [h1] at cc
  have Cc:=Lib.hid cc
  have HG:=Lib.hid hg
  have b:=ckR_ok h1
  have C2:=Lib.hid (fun w g=>parse_frac x hx b w g)
  have c3:=fun w g=>signedString_any (frN x.data.toList) (frS x.data.toList) (big_of b.n14) w g
  have c4:=fun w g=>signedString_any (frD x.data.toList) false (big_of b.d14) w g
  obtain ⟨T1,hT1⟩ : ∃ T : ByteArray,⟨(sgText (frN x.data.toList) (frS x.data.toList)).toArray⟩ = T:=⟨_,rfl⟩
  obtain ⟨T2,hT2⟩ : ∃ T : ByteArray,⟨(sgText (frD x.data.toList) false).toArray⟩ = T:=⟨_,rfl⟩
  rw [hT1] at c3 ⊢
  rw [hT2] at c4 ⊢
  have C3:=Lib.hid c3;have C4:=Lib.hid c4
  clear cc c3 c4 hT1 hT2 b h1 hg hx
  generalize frN x.data.toList = p2 at *
  generalize frS x.data.toList = s2 at *
  generalize frD x.data.toList = q2 at *
  go_enter Tryz.func49,Tryz.ntmps49
  go_wp2_with (first
    | (go_at_call 45;(with_reducible refine (Cc.out).mono ?_);rintro e w1 ⟨rfl,hb1⟩;have HB1:=Lib.hid hb1;have HG1:=Lib.hid (HG.out.keep hb1);clear hb1)
    | (go_at_call 107;(with_reducible refine (C2.out _ HG1.out).mono ?_);rintro e w2 ⟨rfl,hb2⟩;have HB2:=Lib.hid (HB1.out.trans (hb2.mono HB1.out.size));have HG2:=Lib.hid (HG1.out.keep hb2);clear hb2)
    | ((with_reducible refine al_zb 115 _ w2.heap.size ?_ ?_ z115 ?_);(· exact ⟨rfl,rfl⟩);· rfl)
    | ((with_reducible refine st115 w2.heap.size 0 p2 s2 q2 false ?_ ?_ ?_);(· exact ⟨rfl,_,_,rfl,rfl,rfl⟩);· exact there_at rfl _ 115 (by rw [frL_len])))
  try simp only [Act.put,List.setIfInBounds_toArray,List.set_cons_zero,List.set_cons_succ]
  have HBx:=Lib.hid ((HB2.out.trans ((nwr_old w2 p2 s2 q2 false).mono HB2.out.size)).drew)
  have HRx:=Lib.hid (show (nwr w2 p2 s2 q2 false).drew.rangeAt w2.heap.size 0 (frL p2 s2 q2 false) from nwr_at w2 p2 s2 q2 false)
  have HGx:=Lib.hid (gl_drew (HG2.out.keep (nwr_old w2 p2 s2 q2 false)))
  refine wp_region_held_drew (S:=(fun w'=>Below w.heap.size w w'/\w'.rangeAt w2.heap.size 0 (frL p2 s2 q2 false)/\Gl w')) (by kernel_rfl) ?_ (fun hH=>?_)
  · exact ⟨HBx.out,HRx.out,HGx.out⟩
  try dsimp only at hH
  refine wpAnyH_take (i:=0) (v:=(.pointer (some ⟨w2.heap.size,0,none⟩))) rfl (by kernel_rfl) (by kernel_rfl) (by kernel_rfl) (fun _ _ _ h=>h) (Or.inl ⟨by rfl,fun wz hz=>by skip;go_simp⟩) hH ?_
  try simp only [Act.put,List.getElem_toArray,List.getElem_cons_zero,List.setIfInBounds_toArray,List.set_cons_zero,List.set_cons_succ]
  refine wpAnyH_take (i:=1) (v:=(.agg (sgL p2 s2).toArray)) rfl (by kernel_rfl) (by kernel_rfl) (by kernel_rfl) (fun _ _ _ h=>h) (yld88 w2.heap.size 0 p2 s2 rfl ⟨_,rfl,rfl⟩ (fun wz hz=>fr_up (hz.2.1))) hH ?_
  try simp only [Act.put,List.getElem_toArray,List.getElem_cons_succ,List.getElem_cons_zero,List.setIfInBounds_toArray,List.set_cons_zero,List.set_cons_succ]
  refine wpAnyH_take (i:=3) (v:=(.pointer (some ⟨w2.heap.size,31,none⟩))) rfl (by kernel_rfl) (by kernel_rfl) (by kernel_rfl) (fun _ _ _ h=>h) (Or.inl ⟨by rfl,fun wz hz=>by skip;go_simp⟩) hH ?_
  try simp only [Act.put,List.getElem_toArray,List.getElem_cons_succ,List.getElem_cons_zero,List.setIfInBounds_toArray,List.set_cons_zero,List.set_cons_succ]
  refine wpAnyH_take (i:=4) (v:=(.agg (sgL q2 false).toArray)) rfl (by kernel_rfl) (by kernel_rfl) (by kernel_rfl) (fun _ _ _ h=>h) (yld88 w2.heap.size 31 q2 false rfl ⟨_,rfl,rfl⟩ (fun wz hz=>fr_lo (hz.2.1))) hH ?_
  try simp only [Act.put,List.getElem_toArray,List.getElem_cons_succ,List.getElem_cons_zero,List.setIfInBounds_toArray,List.set_cons_zero,List.set_cons_succ]
  refine wpAnyH_ready (rs:=[2]) (by kernel_rfl) (by simp) ?_
  refine AllReadyH.cons rfl (fun K hK=>?_) AllReadyH.nil
  simp only [List.getElem_toArray,List.getElem_cons_succ,List.getElem_cons_zero]
  rw [if_pos (by rfl)]
  go_simp
  refine (C3.out _ hH.2.2).mono ?_;rintro e w1 ⟨rfl,hb1⟩
  try simp only []
  refine hK.out _ _ ?_ (fun hH1=>?_)
  · exact ⟨(hH.1).trans (hb1.mono (hH.1).size),range_keep hH.2.1 hb1,gl_keep hH.2.2 hb1⟩
  clear hK K
  try simp only [Act.put,List.getElem_toArray,List.getElem_cons_succ,List.getElem_cons_zero,List.setIfInBounds_toArray,List.set_cons_zero,List.set_cons_succ]
  refine wpAnyH_ready (rs:=[5]) (by kernel_rfl) (by simp) ?_
  refine AllReadyH.cons rfl (fun K hK=>?_) AllReadyH.nil
  simp only [List.getElem_toArray,List.getElem_cons_succ,List.getElem_cons_zero]
  rw [if_pos (by rfl)]
  go_simp
  refine (C4.out _ hH1.2.2).mono ?_;rintro e w2 ⟨rfl,hb2⟩
  try simp only []
  refine hK.out _ _ ?_ (fun hH2=>?_)
  · exact ⟨(hH1.1).trans (hb2.mono (hH1.1).size),range_keep hH1.2.1 hb2,gl_keep hH1.2.2 hb2⟩
  clear hK K
  try simp only [Act.put,List.getElem_toArray,List.getElem_cons_succ,List.getElem_cons_zero,List.setIfInBounds_toArray,List.set_cons_zero,List.set_cons_succ]
  refine wpAnyH_take (i:=6) (v:=(.string T1)) rfl (by kernel_rfl) (by kernel_rfl) (by kernel_rfl) (fun _ _ _ h=>h) (Or.inl ⟨by rfl,fun wz hz=>by skip;go_simp⟩) hH2 ?_
  try simp only [Act.put,List.getElem_toArray,List.getElem_cons_succ,List.getElem_cons_zero,List.setIfInBounds_toArray,List.set_cons_zero,List.set_cons_succ]
  refine wpAnyH_take (i:=7) (v:=(.string T2)) rfl (by kernel_rfl) (by kernel_rfl) (by kernel_rfl) (fun _ _ _ h=>h) (Or.inl ⟨by rfl,fun wz hz=>by skip;go_simp⟩) hH2 ?_
  try simp only [Act.put,List.getElem_toArray,List.getElem_cons_succ,List.getElem_cons_zero,List.setIfInBounds_toArray,List.set_cons_zero,List.set_cons_succ]
  refine wpAnyH_take (i:=8) (v:=(.int .i64 0)) rfl (by kernel_rfl) (by kernel_rfl) (by kernel_rfl) (fun _ _ _ h=>h) (Or.inl ⟨by rfl,fun wz hz=>by skip;go_simp⟩) hH2 ?_
  try simp only [Act.put,List.getElem_toArray,List.getElem_cons_succ,List.getElem_cons_zero,List.setIfInBounds_toArray,List.set_cons_zero,List.set_cons_succ]
  refine wpAnyH_done (by kernel_rfl) ?_ _
  go_wp2
  go_ret3
  exact ⟨rfl,hH2.1⟩
end Go.Proofs.YtpbegoflpfdajaaGreatDoor

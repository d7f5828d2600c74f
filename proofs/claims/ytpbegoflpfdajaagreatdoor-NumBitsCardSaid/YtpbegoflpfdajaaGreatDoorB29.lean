/- WHAT IS PROVED: contracts of functions of the numbers package and laws for them, used by the last text of this claim. CONDITIONS: stated at each theorem. -/
import Derived.Test.YtpbegoflpfdajaaGreatDoorB28
namespace Go.Proofs.YtpbegoflpfdajaaGreatDoor
open Go.RowKit

theorem walb {op : Oper} {a : Act} {w : World} {K : Act->World->Prop} {Q : Exit->Act->World->Prop} (t : TypeId) (z : Array Value) (b : Nat) (ho : op.op = .alloc t) (hb : b = w.heap.size) (hz : ∀ w,(zeroValue t).run Tryz.prog w = .ok (.agg z) w) (h : K (a.put op.dst (.pointer (some ⟨b,0,none⟩))) (w.alloc (.cells z t))) : op.wp Tryz.prog a w K Q:=by
  subst hb;exact wal t z ho hz h
theorem firstErr_new (a b : Int) (w : World) : Calls Tryz.prog 88 #[.slice (some ⟨w.heap.size,0,none⟩) 2 2] (w.alloc (.cells #[.int .i64 a,.int .i64 b] 24)) fun e w'=>e = .returned (.int .i64 (firstE [a,b]))/\Below (w.alloc (.cells #[.int .i64 a,.int .i64 b] 24)).heap.size (w.alloc (.cells #[.int .i64 a,.int .i64 b] 24)) w':=by
  obtain ⟨_,a1,a2,_⟩:=two_new (w:=w) (.int .i64 a) (.int .i64 b) 24
  refine (firstError_any w.heap.size 2 2 [a,b] rfl (by omega) _ (fun i hi=>by
    match i,hi with
    | 0,_=>exact a1
    | 1,_=>exact a2)).mono ?_
  rintro e w' ⟨rfl,rfl⟩
  exact ⟨rfl,Below.refl _ _⟩
theorem firstErr_zz (w : World) : Calls Tryz.prog 88 #[.slice (some ⟨w.heap.size,0,none⟩) 2 2] (w.alloc (.cells #[.int .i64 0,.int .i64 0] 24)) fun e w'=>e = .returned (.int .i64 0)/\Below (w.alloc (.cells #[.int .i64 0,.int .i64 0] 24)).heap.size (w.alloc (.cells #[.int .i64 0,.int .i64 0] 24)) w':=firstErr_new 0 0 w
theorem nws_lt {w w' : World} {n : Nat} {s : Bool} (hb : Below ((w.alloc (.cells (sgL 0 false).toArray 88)).setCells w.heap.size 0 (sgL n s)).heap.size ((w.alloc (.cells (sgL 0 false).toArray 88)).setCells w.heap.size 0 (sgL n s)) w') : w.heap.size + 1 <= w'.heap.size:=by
  have:=hb.size
  rw [size_setCells] at this
  simpa using this
set_option maxHeartbeats 8000000 in
set_option maxRecDepth 20000 in
theorem divMod_ok (x y : ByteArray) (w : World) (hg : Gl w) (h1 : ckL x.data.toList = 0) (h2 : ckL y.data.toList = 0) (h3 : intM y.data.toList ≠ 0) (f1 : fitsV (sdQ (intM x.data.toList) (intS x.data.toList) (intM y.data.toList)) = 0) (f2 : fitsV (sdR (intM x.data.toList) (intS x.data.toList) (intM y.data.toList)) = 0) : Calls Tryz.prog 27 #[.string x,.string y] w fun e w'=>e = .returned (.tuple #[.string ⟨(sgText (sdQ (intM x.data.toList) (intS x.data.toList) (intM y.data.toList)) (sdS (intM x.data.toList) (intS x.data.toList) (intM y.data.toList) (intS y.data.toList))).toArray⟩,.string ⟨(sgText (sdR (intM x.data.toList) (intS x.data.toList) (intM y.data.toList)) false).toArray⟩,.int .i64 0])/\Below w.heap.size w w':=by
  have cc:=checks_two x y w hg
  rw [h1,h2,show firstE [0,0] = 0 from rfl] at cc
  have Cc:=Lib.hid cc
  have HG:=Lib.hid hg
  have C1:=Lib.hid (fun w g=>parse_ck x h1 w g)
  have C2:=Lib.hid (fun w g=>parse_ck y h2 w g)
  have Cz:=Lib.hid (fun w=>isZero_any (intM y.data.toList) (intM_lt _ h2) w)
  rw [show decide (intM y.data.toList = 0) = false by simpa using h3] at Cz
  have c3:=fun w=>divS_any (intM x.data.toList) (intS x.data.toList) (intM y.data.toList) (intS y.data.toList) (Nat.lt_of_lt_of_le (intM_small _ h1) (pow_mono (by omega))) (intM_lt _ h2) (Nat.pos_of_ne_zero h3) w
  have hQ : sdQ (intM x.data.toList) (intS x.data.toList) (intM y.data.toList) < bb ^ 30:=sdQ_lt (intM_small _ h1)
  have hR : sdR (intM x.data.toList) (intS x.data.toList) (intM y.data.toList) < bb ^ 30:=by
    have:=Nat.mod_lt (intM x.data.toList) (Nat.pos_of_ne_zero h3)
    have:=intM_lt _ h2
    unfold sdR;split <;> omega
  have t1:=fun w g=>signedString_any (sdQ (intM x.data.toList) (intS x.data.toList) (intM y.data.toList)) (sdS (intM x.data.toList) (intS x.data.toList) (intM y.data.toList) (intS y.data.toList)) hQ w g
  have t2:=fun w g=>signedString_any (sdR (intM x.data.toList) (intS x.data.toList) (intM y.data.toList)) false hR w g
  have F1:=fun w g=>fits_any (sdQ (intM x.data.toList) (intS x.data.toList) (intM y.data.toList)) (sdS (intM x.data.toList) (intS x.data.toList) (intM y.data.toList) (intS y.data.toList)) hQ w g
  have F2:=fun w g=>fits_any (sdR (intM x.data.toList) (intS x.data.toList) (intM y.data.toList)) false hR w g
  rw [f1] at F1
  rw [f2] at F2
  generalize sdQ (intM x.data.toList) (intS x.data.toList) (intM y.data.toList) = Q at *
  generalize sdR (intM x.data.toList) (intS x.data.toList) (intM y.data.toList) = R at *
  generalize sdS (intM x.data.toList) (intS x.data.toList) (intM y.data.toList) (intS y.data.toList) = sg at *
  have C3:=Lib.hid c3;have F1:=Lib.hid F1;have F2:=Lib.hid F2
  obtain ⟨T1,hT1⟩ : ∃ T : ByteArray,⟨(sgText Q sg).toArray⟩ = T:=⟨_,rfl⟩
  obtain ⟨T2,hT2⟩ : ∃ T : ByteArray,⟨(sgText R false).toArray⟩ = T:=⟨_,rfl⟩
  rw [hT1] at t1 ⊢
  rw [hT2] at t2 ⊢
  have T1c:=Lib.hid t1;have T2c:=Lib.hid t2
  obtain ⟨V1,hV1⟩ : ∃ V,(sgL (intM x.data.toList) (intS x.data.toList)).toArray = V:=⟨_,rfl⟩
  rw [hV1] at C1 C3
  clear c3 cc hV1 h1 h2 hg h3 t1 t2 hT1 hT2 hQ hR f1 f2
  generalize intM y.data.toList = p2 at *
  generalize intS y.data.toList = s2 at *
  go_enter Tryz.func27,Tryz.ntmps27
  go_wp2_with (first
    | (go_at_call 85;(with_reducible refine (Cc.out).mono ?_);rintro e w1 ⟨rfl,hb1⟩;have HB1:=Lib.hid (below2 hb1);have HG1:=Lib.hid (HG.out.keep2 hb1);clear hb1)
    | (go_at_call 72;(with_reducible refine (C2.out _ HG1.out).mono ?_);rintro e w2 ⟨rfl,hb2⟩;have HB2:=Lib.hid (HB1.out.trans (hb2.mono HB1.out.size));clear hb2)
    | ((with_reducible refine al_zb 88 _ w2.heap.size ?_ ?_ z88 ?_);(· exact ⟨rfl,rfl⟩);· rfl)
    | ((with_reducible refine st88 w2.heap.size 0 p2 s2 ?_ ?_ ?_);(· exact ⟨rfl,_,_,rfl,rfl,rfl⟩);· exact there_at rfl _ 88 (by rw [sgL_len]))
    | ((with_reducible refine ld86 w2.heap.size 0 p2 ?_ ?_ ?_);(· exact ⟨rfl,_,rfl,rfl⟩);· exact (range_sg (nws_at w2 p2 s2)).1)
    | (go_at_call 86;(with_reducible refine (Cz.out _).mono ?_);rintro e w3 ⟨rfl,hb3⟩;have HB3:=Lib.hid (HB2.out.trans ((nws_below hb3).mono HB2.out.size));have HR3:=Lib.hid (range_keep (nws_at w2 p2 s2) hb3);have hz3 : w2.heap.size + 1 <= w3.heap.size:=nws_lt hb3;clear hb3))
  try simp only [Act.put,List.getElem_toArray,List.getElem_cons_succ,List.getElem_cons_zero,List.setIfInBounds_toArray,List.set_cons_zero,List.set_cons_succ]
  have hw2:=HB2.out.size
  rename_i Q0 K0 a0
  have FIN : ∀ (b9 b10 : Nat) (W' : World),Below w.heap.size w W'->W'.rangeAt b9 0 (sgL Q sg)->W'.rangeAt b10 0 (sgL R false)->Exit.then K0 Q0 Exit.normal { tmps:=#[Value.string x,Value.string y,undef,undef,Value.string { data:=#[] },Value.string { data:=#[] },Value.int IntKind.i64 0,Value.int IntKind.i64 0,Value.pointer (some { block:=w2.heap.size,off:=0 }),Value.pointer (some { block:=b9,off:=0 }),Value.pointer (some { block:=b10,off:=0 }),undef,Value.string x,Value.string y,Value.slice (some { block:=w.heap.size,off:=0 }) 2 2,Value.int IntKind.i64 0,Value.int IntKind.i64 0,Value.bool false,undef,Value.string y,Value.agg (sgL p2 s2).toArray,Value.pointer (some { block:=w2.heap.size,off:=0 }),Value.agg (mgL p2).toArray,Value.bool false,Value.tuple #[Value.agg (sgL Q sg).toArray,Value.agg (sgL R false).toArray],Value.string x,Value.agg V1,Value.agg (sgL p2 s2).toArray,Value.tuple #[Value.agg (sgL Q sg).toArray,Value.agg (sgL R false).toArray],Value.agg (sgL Q sg).toArray,Value.agg (sgL R false).toArray,undef,undef,undef,undef,undef,undef,undef,undef,undef,undef,undef,undef,undef],defers:=[] } W':=by
    intro b9 b10 W' hB9 hR9 hR10
    have HBy:=Lib.hid hB9;have HR9:=Lib.hid hR9;have HR10:=Lib.hid hR10
    clear hB9 hR9 hR10
    go_wp2_with fail
    refine wp_region_held_drew (S:=(fun w'=>Below w.heap.size w w'/\w'.rangeAt b9 0 (sgL Q sg)/\w'.rangeAt b10 0 (sgL R false))) (by kernel_rfl) ?_ (fun hH=>?_)
    · exact ⟨HBy.out.drew,HR9.out,HR10.out⟩
    try dsimp only at hH
    refine wpAnyH_take (i:=0) (v:=(.agg (sgL Q sg).toArray)) rfl (by kernel_rfl) (by kernel_rfl) (by kernel_rfl) (fun _ _ _ h=>h) (yld88 b9 0 Q sg rfl ⟨_,rfl,rfl⟩ (fun wz hz=>hz.2.1)) hH ?_
    try simp only [Act.put,List.getElem_toArray,List.getElem_cons_zero,List.setIfInBounds_toArray,List.set_cons_zero,List.set_cons_succ]
    refine wpAnyH_take (i:=2) (v:=(.agg (sgL R false).toArray)) rfl (by kernel_rfl) (by kernel_rfl) (by kernel_rfl) (fun _ _ _ h=>h) (yld88 b10 0 R false rfl ⟨_,rfl,rfl⟩ (fun wz hz=>hz.2.2)) hH ?_
    try simp only [Act.put,List.getElem_toArray,List.getElem_cons_succ,List.getElem_cons_zero,List.setIfInBounds_toArray,List.set_cons_zero,List.set_cons_succ]
    refine wpAnyH_ready (rs:=[1]) (by kernel_rfl) (by simp) ?_
    refine AllReadyH.cons rfl (fun K hK=>?_) AllReadyH.nil
    simp only [List.getElem_toArray,List.getElem_cons_succ,List.getElem_cons_zero]
    rw [if_pos (by rfl)]
    go_simp
    refine (F1.out _ (HG.out.keep hH.1)).mono ?_;rintro e v1 ⟨rfl,hb1⟩
    try simp only []
    refine hK.out _ _ ?_ (fun hH1=>?_)
    · exact ⟨(hH.1).trans (hb1.mono (hH.1).size),range_keep hH.2.1 hb1,range_keep hH.2.2 hb1⟩
    clear hK K
    try simp only [Act.put,List.getElem_toArray,List.getElem_cons_succ,List.getElem_cons_zero,List.setIfInBounds_toArray,List.set_cons_zero,List.set_cons_succ]
    refine wpAnyH_ready (rs:=[3]) (by kernel_rfl) (by simp) ?_
    refine AllReadyH.cons rfl (fun K hK=>?_) AllReadyH.nil
    simp only [List.getElem_toArray,List.getElem_cons_succ,List.getElem_cons_zero]
    rw [if_pos (by rfl)]
    go_simp
    refine (F2.out _ (HG.out.keep hH1.1)).mono ?_;rintro e v2 ⟨rfl,hb2⟩
    try simp only []
    refine hK.out _ _ ?_ (fun hH2=>?_)
    · exact ⟨(hH1.1).trans (hb2.mono (hH1.1).size),range_keep hH1.2.1 hb2,range_keep hH1.2.2 hb2⟩
    clear hK K
    try simp only [Act.put,List.getElem_toArray,List.getElem_cons_succ,List.getElem_cons_zero,List.setIfInBounds_toArray,List.set_cons_zero,List.set_cons_succ]
    refine wpAnyH_ready (rs:=[4]) (by kernel_rfl) (by simp) ?_
    refine AllReadyH.cons rfl (fun K hK=>?_) AllReadyH.nil
    simp only [List.getElem_toArray,List.getElem_cons_succ,List.getElem_cons_zero]
    rw [if_pos (by rfl)]
    go_simp
    refine hK.out _ _ ?_ (fun hH3=>?_)
    · exact ⟨(hH2.1).alloc (hH2.1).size _,World.rangeAt_alloc hH2.2.1 _,World.rangeAt_alloc hH2.2.2 _⟩
    clear hK K
    try simp only [Act.put,List.getElem_toArray,List.getElem_cons_succ,List.getElem_cons_zero,List.setIfInBounds_toArray,List.set_cons_zero,List.set_cons_succ]
    refine wpAnyH_ready (rs:=[5]) (by kernel_rfl) (by simp) ?_
    refine AllReadyH.cons rfl (fun K hK=>?_) AllReadyH.nil
    simp only [List.getElem_toArray,List.getElem_cons_succ,List.getElem_cons_zero]
    rw [if_pos (by rfl)]
    go_simp
    refine (firstErr_zz _).mono ?_;rintro e v4 ⟨rfl,hb4⟩
    try simp only []
    refine hK.out _ _ ?_ (fun hH4=>?_)
    · exact ⟨(hH3.1).trans (hb4.mono (hH3.1).size),range_keep hH3.2.1 hb4,range_keep hH3.2.2 hb4⟩
    clear hK K
    try simp only [Act.put,List.getElem_toArray,List.getElem_cons_succ,List.getElem_cons_zero,List.setIfInBounds_toArray,List.set_cons_zero,List.set_cons_succ]
    refine wpAnyH_take (i:=6) (v:=(.int .i64 0)) rfl (by kernel_rfl) (by kernel_rfl) (by kernel_rfl) (fun _ _ _ h=>h) (Or.inl ⟨by rfl,fun wz hz=>by skip;go_simp⟩) hH4 ?_
    try simp only [Act.put,List.getElem_toArray,List.getElem_cons_succ,List.getElem_cons_zero,List.setIfInBounds_toArray,List.set_cons_zero,List.set_cons_succ]
    refine wpAnyH_done (by kernel_rfl) ?_ _
    have HBz:=Lib.hid hH4.1
    have S9:=Lib.hid hH4.2.1
    have S10:=Lib.hid hH4.2.2
    go_wp2_with fail
    try simp only [Act.put,List.getElem_toArray,List.getElem_cons_succ,List.getElem_cons_zero,List.setIfInBounds_toArray,List.set_cons_zero,List.set_cons_succ]
    refine wp_region_held_drew (S:=(fun w'=>Below w.heap.size w w'/\w'.rangeAt b9 0 (sgL Q sg)/\w'.rangeAt b10 0 (sgL R false))) (by kernel_rfl) ?_ (fun hH=>?_)
    · exact ⟨HBz.out.drew,S9.out,S10.out⟩
    try dsimp only at hH
    refine wpAnyH_take (i:=0) (v:=(.agg (sgL Q sg).toArray)) rfl (by kernel_rfl) (by kernel_rfl) (by kernel_rfl) (fun _ _ _ h=>h) (yld88 b9 0 Q sg rfl ⟨_,rfl,rfl⟩ (fun wz hz=>hz.2.1)) hH ?_
    try simp only [Act.put,List.getElem_toArray,List.getElem_cons_zero,List.setIfInBounds_toArray,List.set_cons_zero,List.set_cons_succ]
    refine wpAnyH_take (i:=2) (v:=(.agg (sgL R false).toArray)) rfl (by kernel_rfl) (by kernel_rfl) (by kernel_rfl) (fun _ _ _ h=>h) (yld88 b10 0 R false rfl ⟨_,rfl,rfl⟩ (fun wz hz=>hz.2.2)) hH ?_
    try simp only [Act.put,List.getElem_toArray,List.getElem_cons_succ,List.getElem_cons_zero,List.setIfInBounds_toArray,List.set_cons_zero,List.set_cons_succ]
    refine wpAnyH_ready (rs:=[1]) (by kernel_rfl) (by simp) ?_
    refine AllReadyH.cons rfl (fun K hK=>?_) AllReadyH.nil
    simp only [List.getElem_toArray,List.getElem_cons_succ,List.getElem_cons_zero]
    rw [if_pos (by rfl)]
    go_simp
    refine (T1c.out _ (HG.out.keep hH.1)).mono ?_;rintro e v1 ⟨rfl,hb1⟩
    try simp only []
    refine hK.out _ _ ?_ (fun hH1=>?_)
    · exact ⟨(hH.1).trans (hb1.mono (hH.1).size),range_keep hH.2.1 hb1,range_keep hH.2.2 hb1⟩
    clear hK K
    try simp only [Act.put,List.getElem_toArray,List.getElem_cons_succ,List.getElem_cons_zero,List.setIfInBounds_toArray,List.set_cons_zero,List.set_cons_succ]
    refine wpAnyH_ready (rs:=[3]) (by kernel_rfl) (by simp) ?_
    refine AllReadyH.cons rfl (fun K hK=>?_) AllReadyH.nil
    simp only [List.getElem_toArray,List.getElem_cons_succ,List.getElem_cons_zero]
    rw [if_pos (by rfl)]
    go_simp
    refine (T2c.out _ (HG.out.keep hH1.1)).mono ?_;rintro e v2 ⟨rfl,hb2⟩
    try simp only []
    refine hK.out _ _ ?_ (fun hH2=>?_)
    · exact ⟨(hH1.1).trans (hb2.mono (hH1.1).size),range_keep hH1.2.1 hb2,range_keep hH1.2.2 hb2⟩
    clear hK K
    try simp only [Act.put,List.getElem_toArray,List.getElem_cons_succ,List.getElem_cons_zero,List.setIfInBounds_toArray,List.set_cons_zero,List.set_cons_succ]
    refine wpAnyH_take (i:=4) (v:=(.string T1)) rfl (by kernel_rfl) (by kernel_rfl) (by kernel_rfl) (fun _ _ _ h=>h) (Or.inl ⟨by rfl,fun wz hz=>by skip;go_simp⟩) hH2 ?_
    try simp only [Act.put,List.getElem_toArray,List.getElem_cons_succ,List.getElem_cons_zero,List.setIfInBounds_toArray,List.set_cons_zero,List.set_cons_succ]
    refine wpAnyH_take (i:=5) (v:=(.string T2)) rfl (by kernel_rfl) (by kernel_rfl) (by kernel_rfl) (fun _ _ _ h=>h) (Or.inl ⟨by rfl,fun wz hz=>by skip;go_simp⟩) hH2 ?_
    try simp only [Act.put,List.getElem_toArray,List.getElem_cons_succ,List.getElem_cons_zero,List.setIfInBounds_toArray,List.set_cons_zero,List.set_cons_succ]
    refine wpAnyH_take (i:=6) (v:=(.int .i64 0)) rfl (by kernel_rfl) (by kernel_rfl) (by kernel_rfl) (fun _ _ _ h=>h) (Or.inl ⟨by rfl,fun wz hz=>by skip;go_simp⟩) hH2 ?_
    try simp only [Act.put,List.getElem_toArray,List.getElem_cons_succ,List.getElem_cons_zero,List.setIfInBounds_toArray,List.set_cons_zero,List.set_cons_succ]
    refine wpAnyH_done (by kernel_rfl) ?_ _
    go_wp2
    go_ret3
    exact ⟨rfl,hH2.1⟩
  refine wp_region_held_drew (S:=(fun w'=>Below w.heap.size w w'/\w'.rangeAt w2.heap.size 0 (sgL p2 s2)/\w2.heap.size + 1 <= w'.heap.size)) (by kernel_rfl) ?_ (fun hH=>?_)
  · exact ⟨HB3.out.drew,HR3.out,hz3⟩
  try dsimp only at hH
  refine wpAnyH_take (i:=0) (v:=(.string x)) rfl (by kernel_rfl) (by kernel_rfl) (by kernel_rfl) (fun _ _ _ h=>h) (Or.inl ⟨by rfl,fun wz hz=>by skip;go_simp⟩) hH ?_
  try simp only [Act.put,List.getElem_toArray,List.getElem_cons_zero,List.setIfInBounds_toArray,List.set_cons_zero,List.set_cons_succ]
  refine wpAnyH_take (i:=2) (v:=(.agg (sgL p2 s2).toArray)) rfl (by kernel_rfl) (by kernel_rfl) (by kernel_rfl) (fun _ _ _ h=>h) (yld88 w2.heap.size 0 p2 s2 rfl ⟨_,rfl,rfl⟩ (fun wz hz=>hz.2.1)) hH ?_
  try simp only [Act.put,List.getElem_toArray,List.getElem_cons_succ,List.getElem_cons_zero,List.setIfInBounds_toArray,List.set_cons_zero,List.set_cons_succ]
  refine wpAnyH_ready (rs:=[1,7,8]) (by kernel_rfl) (by simp) ?_
  refine AllReadyH.cons rfl (fun K hK=>?_) ?_
  · simp only [List.getElem_toArray,List.getElem_cons_succ,List.getElem_cons_zero]
    rw [if_pos (by rfl)]
    go_simp
    refine (C1.out _ (HG.out.keep hH.1)).mono ?_;rintro e v1 ⟨rfl,hb1⟩
    try simp only []
    refine hK.out _ _ ?_ (fun hH1=>?_)
    · exact ⟨(hH.1).trans (hb1.mono (hH.1).size),range_keep hH.2.1 hb1,sz_keep hH.2.2 hb1⟩
    clear hK K
    try simp only [Act.put,List.getElem_toArray,List.getElem_cons_succ,List.getElem_cons_zero,List.setIfInBounds_toArray,List.set_cons_zero,List.set_cons_succ]
    refine wpAnyH_ready (rs:=[3,7,8]) (by kernel_rfl) (by simp) ?_
    refine AllReadyH.cons rfl (fun K hK=>?_) ?_
    · simp only [List.getElem_toArray,List.getElem_cons_succ,List.getElem_cons_zero]
      rw [if_pos (by rfl)]
      go_simp
      refine (C3.out _).mono ?_;rintro e v2 ⟨rfl,hb2⟩
      try simp only []
      refine hK.out _ _ ?_ (fun hH2=>?_)
      · exact ⟨(hH1.1).trans (hb2.mono (hH1.1).size),range_keep hH1.2.1 hb2,sz_keep hH1.2.2 hb2⟩
      clear hK K
      try simp only [Act.put,List.getElem_toArray,List.getElem_cons_succ,List.getElem_cons_zero,List.setIfInBounds_toArray,List.set_cons_zero,List.set_cons_succ]
      refine wpAnyH_take (i:=4) (v:=(.tuple #[.agg (sgL Q sg).toArray,.agg (sgL R false).toArray])) rfl (by kernel_rfl) (by kernel_rfl) (by kernel_rfl) (fun _ _ _ h=>h) (Or.inl ⟨by rfl,fun wz hz=>by skip;go_simp⟩) hH2 ?_
      try simp only [Act.put,List.getElem_toArray,List.getElem_cons_succ,List.getElem_cons_zero,List.setIfInBounds_toArray,List.set_cons_zero,List.set_cons_succ]
      refine wpAnyH_take (i:=5) (v:=(.agg (sgL Q sg).toArray)) rfl (by kernel_rfl) (by kernel_rfl) (by kernel_rfl) (fun _ _ _ h=>h) (Or.inl ⟨by rfl,fun wz hz=>by skip;go_simp⟩) hH2 ?_
      try simp only [Act.put,List.getElem_toArray,List.getElem_cons_succ,List.getElem_cons_zero,List.setIfInBounds_toArray,List.set_cons_zero,List.set_cons_succ]
      refine wpAnyH_take (i:=6) (v:=(.agg (sgL R false).toArray)) rfl (by kernel_rfl) (by kernel_rfl) (by kernel_rfl) (fun _ _ _ h=>h) (Or.inl ⟨by rfl,fun wz hz=>by skip;go_simp⟩) hH2 ?_
      try simp only [Act.put,List.getElem_toArray,List.getElem_cons_succ,List.getElem_cons_zero,List.setIfInBounds_toArray,List.set_cons_zero,List.set_cons_succ]
      refine wpAnyH_ready (rs:=[7,8]) (by kernel_rfl) (by simp) ?_
      refine AllReadyH.cons rfl (fun K hK=>?_) ?_
      · simp only [List.getElem_toArray,List.getElem_cons_succ,List.getElem_cons_zero]
        rw [if_pos (by rfl)]
        with_reducible refine walb 88 _ (v2.heap.size) ?_ ?_ z88 ?_
        · rfl
        · first | rfl | simp [size_setCells]
        refine hK.out _ _ ?_ (fun hH3=>?_)
        · exact ⟨(hH2.1).alloc (hH2.1).size _,World.rangeAt_alloc hH2.2.1 _,sz_keep hH2.2.2 ((Below.refl _ _).alloc (Nat.le_refl _) _)⟩
        clear hK K
        have lo3 : w2.heap.size + 1 <= v2.heap.size:=by first | exact hH2.2.2 | (have:=hH2.2.2;simp [size_setCells] at this;omega)
        have TH1:=Lib.hid (there_at (b:=v2.heap.size) (by first | rfl | simp [size_setCells]) _ 88 (by rw [sgL_len]) : World.there (v2.alloc (.cells (sgL 0 false).toArray 88)) (v2.heap.size) 0 31)
        have sz1 : v2.heap.size + 1 <= (v2.alloc (.cells (sgL 0 false).toArray 88)).heap.size:=by simp []
        try simp only [Act.put,List.setIfInBounds_toArray,List.set_cons_zero,List.set_cons_succ]
        refine wpAnyH_ready (rs:=[8]) (by kernel_rfl) (by simp) ?_
        refine AllReadyH.cons rfl (fun K hK=>?_) AllReadyH.nil
        simp only [List.getElem_toArray,List.getElem_cons_succ,List.getElem_cons_zero]
        rw [if_pos (by rfl)]
        with_reducible refine walb 88 _ (v2.heap.size + 1) ?_ ?_ z88 ?_
        · rfl
        · first | rfl | simp []
        refine hK.out _ _ ?_ (fun hH4=>?_)
        · exact ⟨(hH3.1).alloc (hH3.1).size _,World.rangeAt_alloc hH3.2.1 _,sz_keep hH3.2.2 ((Below.refl _ _).alloc (Nat.le_refl _) _)⟩
        clear hK K
        have lo4 : w2.heap.size + 1 <= v2.heap.size + 1:=by first | exact hH3.2.2 | (have:=hH3.2.2;simp [] at this;omega)
        have TH2:=Lib.hid (World.there_alloc TH1.out (.cells (sgL 0 false).toArray 88))
        have sz3:=sz_keep sz1 ((Below.refl _ _).alloc (Nat.le_refl _) (.cells (sgL 0 false).toArray 88))
        have TH4:=Lib.hid (there_at (b:=v2.heap.size + 1) (by first | rfl | simp []) _ 88 (by rw [sgL_len]) : World.there ((v2.alloc (.cells (sgL 0 false).toArray 88)).alloc (.cells (sgL 0 false).toArray 88)) (v2.heap.size + 1) 0 31)
        have sz4 : v2.heap.size + 1 + 1 <= ((v2.alloc (.cells (sgL 0 false).toArray 88)).alloc (.cells (sgL 0 false).toArray 88)).heap.size:=by simp []
        try simp only [Act.put,List.setIfInBounds_toArray,List.set_cons_zero,List.set_cons_succ]
        refine wpAnyH_ready (rs:=[9]) (by kernel_rfl) (by simp) ?_
        refine AllReadyH.cons rfl (fun K hK=>?_) AllReadyH.nil
        simp only [List.getElem_toArray,List.getElem_cons_succ,List.getElem_cons_zero]
        rw [if_pos (by rfl)]
        with_reducible refine wst88 (v2.heap.size) 0 Q sg ?_ TH2.out ?_
        · exact ⟨_,_,rfl,rfl,rfl⟩
        refine hK.out _ _ ?_ (fun hH5=>?_)
        · exact ⟨below_set hH4.1 (by omega) _ _,range_setk hH4.2.1 (by first | trivial | omega),sz_setk hH4.2.2 (by first | trivial | omega)⟩
        clear hK K
        have sz5:=sz_setk (b:=(v2.heap.size)) (o:=0) (vs:=(sgL Q sg)) sz3 trivial
        have TH6:=Lib.hid (World.there_setCells TH4.out (v2.heap.size) 0 (sgL Q sg))
        have sz7:=sz_setk (b:=(v2.heap.size)) (o:=0) (vs:=(sgL Q sg)) sz4 trivial
        have RG8:=Lib.hid (range_set (o:=0) (cs:=sgL Q sg) TH2.out (by rw [sgL_len]))
        try simp only [Act.put]
        refine wpAnyH_ready (rs:=[10]) (by kernel_rfl) (by simp) ?_
        refine AllReadyH.cons rfl (fun K hK=>?_) AllReadyH.nil
        simp only [List.getElem_toArray,List.getElem_cons_succ,List.getElem_cons_zero]
        rw [if_pos (by rfl)]
        with_reducible refine wst88 (v2.heap.size + 1) 0 R false ?_ TH6.out ?_
        · exact ⟨_,_,rfl,rfl,rfl⟩
        refine hK.out _ _ ?_ (fun hH6=>?_)
        · exact ⟨below_set hH5.1 (by omega) _ _,range_setk hH5.2.1 (by first | trivial | omega),sz_setk hH5.2.2 (by first | trivial | omega)⟩
        clear hK K
        have sz9:=sz_setk (b:=(v2.heap.size + 1)) (o:=0) (vs:=(sgL R false)) sz5 trivial
        have sz10:=sz_setk (b:=(v2.heap.size + 1)) (o:=0) (vs:=(sgL R false)) sz7 trivial
        have RG11:=Lib.hid (range_setk (b2:=(v2.heap.size + 1)) (o2:=0) (vs:=(sgL R false)) RG8.out (by omega))
        have RG12:=Lib.hid (range_set (o:=0) (cs:=sgL R false) TH6.out (by rw [sgL_len]))
        try simp only [Act.put]
        refine wpAnyH_done (by kernel_rfl) ?_ _
        exact FIN (v2.heap.size) (v2.heap.size + 1) _ hH6.1 RG11.out RG12.out
      refine AllReadyH.cons rfl (fun K hK=>?_) AllReadyH.nil
      simp only [List.getElem_toArray,List.getElem_cons_succ,List.getElem_cons_zero]
      rw [if_pos (by rfl)]
      with_reducible refine walb 88 _ (v2.heap.size) ?_ ?_ z88 ?_
      · rfl
      · first | rfl | simp [size_setCells]
      refine hK.out _ _ ?_ (fun hH7=>?_)
      · exact ⟨(hH2.1).alloc (hH2.1).size _,World.rangeAt_alloc hH2.2.1 _,sz_keep hH2.2.2 ((Below.refl _ _).alloc (Nat.le_refl _) _)⟩
      clear hK K
      have lo7 : w2.heap.size + 1 <= v2.heap.size:=by first | exact hH2.2.2 | (have:=hH2.2.2;simp [size_setCells] at this;omega)
      have TH13:=Lib.hid (there_at (b:=v2.heap.size) (by first | rfl | simp [size_setCells]) _ 88 (by rw [sgL_len]) : World.there (v2.alloc (.cells (sgL 0 false).toArray 88)) (v2.heap.size) 0 31)
      have sz13 : v2.heap.size + 1 <= (v2.alloc (.cells (sgL 0 false).toArray 88)).heap.size:=by simp []
      try simp only [Act.put,List.setIfInBounds_toArray,List.set_cons_zero,List.set_cons_succ]
      refine wpAnyH_ready (rs:=[7]) (by kernel_rfl) (by simp) ?_
      refine AllReadyH.cons rfl (fun K hK=>?_) AllReadyH.nil
      simp only [List.getElem_toArray,List.getElem_cons_succ,List.getElem_cons_zero]
      rw [if_pos (by rfl)]
      with_reducible refine walb 88 _ (v2.heap.size + 1) ?_ ?_ z88 ?_
      · rfl
      · first | rfl | simp []
      refine hK.out _ _ ?_ (fun hH8=>?_)
      · exact ⟨(hH7.1).alloc (hH7.1).size _,World.rangeAt_alloc hH7.2.1 _,sz_keep hH7.2.2 ((Below.refl _ _).alloc (Nat.le_refl _) _)⟩
      clear hK K
      have lo8 : w2.heap.size + 1 <= v2.heap.size + 1:=by first | exact hH7.2.2 | (have:=hH7.2.2;simp [] at this;omega)
      have TH14:=Lib.hid (World.there_alloc TH13.out (.cells (sgL 0 false).toArray 88))
      have sz15:=sz_keep sz13 ((Below.refl _ _).alloc (Nat.le_refl _) (.cells (sgL 0 false).toArray 88))
      have TH16:=Lib.hid (there_at (b:=v2.heap.size + 1) (by first | rfl | simp []) _ 88 (by rw [sgL_len]) : World.there ((v2.alloc (.cells (sgL 0 false).toArray 88)).alloc (.cells (sgL 0 false).toArray 88)) (v2.heap.size + 1) 0 31)
      have sz16 : v2.heap.size + 1 + 1 <= ((v2.alloc (.cells (sgL 0 false).toArray 88)).alloc (.cells (sgL 0 false).toArray 88)).heap.size:=by simp []
      try simp only [Act.put,List.setIfInBounds_toArray,List.set_cons_zero,List.set_cons_succ]
      refine wpAnyH_ready (rs:=[9]) (by kernel_rfl) (by simp) ?_
      refine AllReadyH.cons rfl (fun K hK=>?_) AllReadyH.nil
      simp only [List.getElem_toArray,List.getElem_cons_succ,List.getElem_cons_zero]
      rw [if_pos (by rfl)]
      with_reducible refine wst88 (v2.heap.size + 1) 0 Q sg ?_ TH16.out ?_
      · exact ⟨_,_,rfl,rfl,rfl⟩
      refine hK.out _ _ ?_ (fun hH9=>?_)
      · exact ⟨below_set hH8.1 (by omega) _ _,range_setk hH8.2.1 (by first | trivial | omega),sz_setk hH8.2.2 (by first | trivial | omega)⟩
      clear hK K
      have TH17:=Lib.hid (World.there_setCells TH14.out (v2.heap.size + 1) 0 (sgL Q sg))
      have sz18:=sz_setk (b:=(v2.heap.size + 1)) (o:=0) (vs:=(sgL Q sg)) sz15 trivial
      have sz19:=sz_setk (b:=(v2.heap.size + 1)) (o:=0) (vs:=(sgL Q sg)) sz16 trivial
      have RG20:=Lib.hid (range_set (o:=0) (cs:=sgL Q sg) TH16.out (by rw [sgL_len]))
      try simp only [Act.put]
      refine wpAnyH_ready (rs:=[10]) (by kernel_rfl) (by simp) ?_
      refine AllReadyH.cons rfl (fun K hK=>?_) AllReadyH.nil
      simp only [List.getElem_toArray,List.getElem_cons_succ,List.getElem_cons_zero]
      rw [if_pos (by rfl)]
      with_reducible refine wst88 (v2.heap.size) 0 R false ?_ TH17.out ?_
      · exact ⟨_,_,rfl,rfl,rfl⟩
      refine hK.out _ _ ?_ (fun hH10=>?_)
      · exact ⟨below_set hH9.1 (by omega) _ _,range_setk hH9.2.1 (by first | trivial | omega),sz_setk hH9.2.2 (by first | trivial | omega)⟩
      clear hK K
      have sz21:=sz_setk (b:=(v2.heap.size)) (o:=0) (vs:=(sgL R false)) sz18 trivial
      have sz22:=sz_setk (b:=(v2.heap.size)) (o:=0) (vs:=(sgL R false)) sz19 trivial
      have RG23:=Lib.hid (range_setk (b2:=(v2.heap.size)) (o2:=0) (vs:=(sgL R false)) RG20.out (by omega))
      have RG24:=Lib.hid (range_set (o:=0) (cs:=sgL R false) TH17.out (by rw [sgL_len]))
      try simp only [Act.put]
      refine wpAnyH_done (by kernel_rfl) ?_ _
      exact FIN (v2.heap.size + 1) (v2.heap.size) _ hH10.1 RG23.out RG24.out
    refine AllReadyH.cons rfl (fun K hK=>?_) ?_
    · simp only [List.getElem_toArray,List.getElem_cons_succ,List.getElem_cons_zero]
      rw [if_pos (by rfl)]
      with_reducible refine walb 88 _ (v1.heap.size) ?_ ?_ z88 ?_
      · rfl
      · first | rfl | simp [size_setCells]
      refine hK.out _ _ ?_ (fun hH11=>?_)
      · exact ⟨(hH1.1).alloc (hH1.1).size _,World.rangeAt_alloc hH1.2.1 _,sz_keep hH1.2.2 ((Below.refl _ _).alloc (Nat.le_refl _) _)⟩
      clear hK K
      have lo11 : w2.heap.size + 1 <= v1.heap.size:=by first | exact hH1.2.2 | (have:=hH1.2.2;simp [size_setCells] at this;omega)
      have TH25:=Lib.hid (there_at (b:=v1.heap.size) (by first | rfl | simp [size_setCells]) _ 88 (by rw [sgL_len]) : World.there (v1.alloc (.cells (sgL 0 false).toArray 88)) (v1.heap.size) 0 31)
      have sz25 : v1.heap.size + 1 <= (v1.alloc (.cells (sgL 0 false).toArray 88)).heap.size:=by simp []
      try simp only [Act.put,List.setIfInBounds_toArray,List.set_cons_zero,List.set_cons_succ]
      refine wpAnyH_ready (rs:=[3,8]) (by kernel_rfl) (by simp) ?_
      refine AllReadyH.cons rfl (fun K hK=>?_) ?_
      · simp only [List.getElem_toArray,List.getElem_cons_succ,List.getElem_cons_zero]
        rw [if_pos (by rfl)]
        go_simp
        refine (C3.out _).mono ?_;rintro e v12 ⟨rfl,hb12⟩
        try simp only []
        refine hK.out _ _ ?_ (fun hH12=>?_)
        · exact ⟨(hH11.1).trans (hb12.mono (hH11.1).size),range_keep hH11.2.1 hb12,sz_keep hH11.2.2 hb12⟩
        clear hK K
        have TH26:=Lib.hid (there_keep TH25.out hb12)
        have sz27:=sz_keep sz25 hb12
        try simp only [Act.put,List.getElem_toArray,List.getElem_cons_succ,List.getElem_cons_zero,List.setIfInBounds_toArray,List.set_cons_zero,List.set_cons_succ]
        refine wpAnyH_take (i:=4) (v:=(.tuple #[.agg (sgL Q sg).toArray,.agg (sgL R false).toArray])) rfl (by kernel_rfl) (by kernel_rfl) (by kernel_rfl) (fun _ _ _ h=>h) (Or.inl ⟨by rfl,fun wz hz=>by skip;go_simp⟩) hH12 ?_
        try simp only [Act.put,List.getElem_toArray,List.getElem_cons_succ,List.getElem_cons_zero,List.setIfInBounds_toArray,List.set_cons_zero,List.set_cons_succ]
        refine wpAnyH_take (i:=5) (v:=(.agg (sgL Q sg).toArray)) rfl (by kernel_rfl) (by kernel_rfl) (by kernel_rfl) (fun _ _ _ h=>h) (Or.inl ⟨by rfl,fun wz hz=>by skip;go_simp⟩) hH12 ?_
        try simp only [Act.put,List.getElem_toArray,List.getElem_cons_succ,List.getElem_cons_zero,List.setIfInBounds_toArray,List.set_cons_zero,List.set_cons_succ]
        refine wpAnyH_take (i:=6) (v:=(.agg (sgL R false).toArray)) rfl (by kernel_rfl) (by kernel_rfl) (by kernel_rfl) (fun _ _ _ h=>h) (Or.inl ⟨by rfl,fun wz hz=>by skip;go_simp⟩) hH12 ?_
        try simp only [Act.put,List.getElem_toArray,List.getElem_cons_succ,List.getElem_cons_zero,List.setIfInBounds_toArray,List.set_cons_zero,List.set_cons_succ]
        refine wpAnyH_ready (rs:=[8]) (by kernel_rfl) (by simp) ?_
        refine AllReadyH.cons rfl (fun K hK=>?_) AllReadyH.nil
        simp only [List.getElem_toArray,List.getElem_cons_succ,List.getElem_cons_zero]
        rw [if_pos (by rfl)]
        with_reducible refine walb 88 _ (v12.heap.size) ?_ ?_ z88 ?_
        · rfl
        · first | rfl | simp [size_setCells]
        refine hK.out _ _ ?_ (fun hH13=>?_)
        · exact ⟨(hH12.1).alloc (hH12.1).size _,World.rangeAt_alloc hH12.2.1 _,sz_keep hH12.2.2 ((Below.refl _ _).alloc (Nat.le_refl _) _)⟩
        clear hK K
        have lo13 : w2.heap.size + 1 <= v12.heap.size:=by first | exact hH12.2.2 | (have:=hH12.2.2;simp [size_setCells] at this;omega)
        have TH28:=Lib.hid (World.there_alloc TH26.out (.cells (sgL 0 false).toArray 88))
        have sz29:=sz_keep sz27 ((Below.refl _ _).alloc (Nat.le_refl _) (.cells (sgL 0 false).toArray 88))
        have TH30:=Lib.hid (there_at (b:=v12.heap.size) (by first | rfl | simp [size_setCells]) _ 88 (by rw [sgL_len]) : World.there (v12.alloc (.cells (sgL 0 false).toArray 88)) (v12.heap.size) 0 31)
        have sz30 : v12.heap.size + 1 <= (v12.alloc (.cells (sgL 0 false).toArray 88)).heap.size:=by simp []
        try simp only [Act.put,List.setIfInBounds_toArray,List.set_cons_zero,List.set_cons_succ]
        refine wpAnyH_ready (rs:=[9]) (by kernel_rfl) (by simp) ?_
        refine AllReadyH.cons rfl (fun K hK=>?_) AllReadyH.nil
        simp only [List.getElem_toArray,List.getElem_cons_succ,List.getElem_cons_zero]
        rw [if_pos (by rfl)]
        with_reducible refine wst88 (v1.heap.size) 0 Q sg ?_ TH28.out ?_
        · exact ⟨_,_,rfl,rfl,rfl⟩
        refine hK.out _ _ ?_ (fun hH14=>?_)
        · exact ⟨below_set hH13.1 (by omega) _ _,range_setk hH13.2.1 (by first | trivial | omega),sz_setk hH13.2.2 (by first | trivial | omega)⟩
        clear hK K
        have sz31:=sz_setk (b:=(v1.heap.size)) (o:=0) (vs:=(sgL Q sg)) sz29 trivial
        have TH32:=Lib.hid (World.there_setCells TH30.out (v1.heap.size) 0 (sgL Q sg))
        have sz33:=sz_setk (b:=(v1.heap.size)) (o:=0) (vs:=(sgL Q sg)) sz30 trivial
        have RG34:=Lib.hid (range_set (o:=0) (cs:=sgL Q sg) TH28.out (by rw [sgL_len]))
        try simp only [Act.put]
        refine wpAnyH_ready (rs:=[10]) (by kernel_rfl) (by simp) ?_
        refine AllReadyH.cons rfl (fun K hK=>?_) AllReadyH.nil
        simp only [List.getElem_toArray,List.getElem_cons_succ,List.getElem_cons_zero]
        rw [if_pos (by rfl)]
        with_reducible refine wst88 (v12.heap.size) 0 R false ?_ TH32.out ?_
        · exact ⟨_,_,rfl,rfl,rfl⟩
        refine hK.out _ _ ?_ (fun hH15=>?_)
        · exact ⟨below_set hH14.1 (by omega) _ _,range_setk hH14.2.1 (by first | trivial | omega),sz_setk hH14.2.2 (by first | trivial | omega)⟩
        clear hK K
        have sz35:=sz_setk (b:=(v12.heap.size)) (o:=0) (vs:=(sgL R false)) sz31 trivial
        have sz36:=sz_setk (b:=(v12.heap.size)) (o:=0) (vs:=(sgL R false)) sz33 trivial
        have RG37:=Lib.hid (range_setk (b2:=(v12.heap.size)) (o2:=0) (vs:=(sgL R false)) RG34.out (by omega))
        have RG38:=Lib.hid (range_set (o:=0) (cs:=sgL R false) TH32.out (by rw [sgL_len]))
        try simp only [Act.put]
        refine wpAnyH_done (by kernel_rfl) ?_ _
        exact FIN (v1.heap.size) (v12.heap.size) _ hH15.1 RG37.out RG38.out
      refine AllReadyH.cons rfl (fun K hK=>?_) AllReadyH.nil
      simp only [List.getElem_toArray,List.getElem_cons_succ,List.getElem_cons_zero]
      rw [if_pos (by rfl)]
      with_reducible refine walb 88 _ (v1.heap.size + 1) ?_ ?_ z88 ?_
      · rfl
      · first | rfl | simp []
      refine hK.out _ _ ?_ (fun hH16=>?_)
      · exact ⟨(hH11.1).alloc (hH11.1).size _,World.rangeAt_alloc hH11.2.1 _,sz_keep hH11.2.2 ((Below.refl _ _).alloc (Nat.le_refl _) _)⟩
      clear hK K
      have lo16 : w2.heap.size + 1 <= v1.heap.size + 1:=by first | exact hH11.2.2 | (have:=hH11.2.2;simp [] at this;omega)
      have TH39:=Lib.hid (World.there_alloc TH25.out (.cells (sgL 0 false).toArray 88))
      have sz40:=sz_keep sz25 ((Below.refl _ _).alloc (Nat.le_refl _) (.cells (sgL 0 false).toArray 88))
      have TH41:=Lib.hid (there_at (b:=v1.heap.size + 1) (by first | rfl | simp []) _ 88 (by rw [sgL_len]) : World.there ((v1.alloc (.cells (sgL 0 false).toArray 88)).alloc (.cells (sgL 0 false).toArray 88)) (v1.heap.size + 1) 0 31)
      have sz41 : v1.heap.size + 1 + 1 <= ((v1.alloc (.cells (sgL 0 false).toArray 88)).alloc (.cells (sgL 0 false).toArray 88)).heap.size:=by simp []
      try simp only [Act.put,List.setIfInBounds_toArray,List.set_cons_zero,List.set_cons_succ]
      refine wpAnyH_ready (rs:=[3]) (by kernel_rfl) (by simp) ?_
      refine AllReadyH.cons rfl (fun K hK=>?_) AllReadyH.nil
      simp only [List.getElem_toArray,List.getElem_cons_succ,List.getElem_cons_zero]
      rw [if_pos (by rfl)]
      go_simp
      refine (C3.out _).mono ?_;rintro e v17 ⟨rfl,hb17⟩
      try simp only []
      refine hK.out _ _ ?_ (fun hH17=>?_)
      · exact ⟨(hH16.1).trans (hb17.mono (hH16.1).size),range_keep hH16.2.1 hb17,sz_keep hH16.2.2 hb17⟩
      clear hK K
      have TH42:=Lib.hid (there_keep TH39.out hb17)
      have sz43:=sz_keep sz40 hb17
      have TH44:=Lib.hid (there_keep TH41.out hb17)
      have sz45:=sz_keep sz41 hb17
      try simp only [Act.put,List.getElem_toArray,List.getElem_cons_succ,List.getElem_cons_zero,List.setIfInBounds_toArray,List.set_cons_zero,List.set_cons_succ]
      refine wpAnyH_take (i:=4) (v:=(.tuple #[.agg (sgL Q sg).toArray,.agg (sgL R false).toArray])) rfl (by kernel_rfl) (by kernel_rfl) (by kernel_rfl) (fun _ _ _ h=>h) (Or.inl ⟨by rfl,fun wz hz=>by skip;go_simp⟩) hH17 ?_
      try simp only [Act.put,List.getElem_toArray,List.getElem_cons_succ,List.getElem_cons_zero,List.setIfInBounds_toArray,List.set_cons_zero,List.set_cons_succ]
      refine wpAnyH_take (i:=5) (v:=(.agg (sgL Q sg).toArray)) rfl (by kernel_rfl) (by kernel_rfl) (by kernel_rfl) (fun _ _ _ h=>h) (Or.inl ⟨by rfl,fun wz hz=>by skip;go_simp⟩) hH17 ?_
      try simp only [Act.put,List.getElem_toArray,List.getElem_cons_succ,List.getElem_cons_zero,List.setIfInBounds_toArray,List.set_cons_zero,List.set_cons_succ]
      refine wpAnyH_take (i:=6) (v:=(.agg (sgL R false).toArray)) rfl (by kernel_rfl) (by kernel_rfl) (by kernel_rfl) (fun _ _ _ h=>h) (Or.inl ⟨by rfl,fun wz hz=>by skip;go_simp⟩) hH17 ?_
      try simp only [Act.put,List.getElem_toArray,List.getElem_cons_succ,List.getElem_cons_zero,List.setIfInBounds_toArray,List.set_cons_zero,List.set_cons_succ]
      refine wpAnyH_ready (rs:=[9]) (by kernel_rfl) (by simp) ?_
      refine AllReadyH.cons rfl (fun K hK=>?_) AllReadyH.nil
      simp only [List.getElem_toArray,List.getElem_cons_succ,List.getElem_cons_zero]
      rw [if_pos (by rfl)]
      with_reducible refine wst88 (v1.heap.size) 0 Q sg ?_ TH42.out ?_
      · exact ⟨_,_,rfl,rfl,rfl⟩
      refine hK.out _ _ ?_ (fun hH18=>?_)
      · exact ⟨below_set hH17.1 (by omega) _ _,range_setk hH17.2.1 (by first | trivial | omega),sz_setk hH17.2.2 (by first | trivial | omega)⟩
      clear hK K
      have sz46:=sz_setk (b:=(v1.heap.size)) (o:=0) (vs:=(sgL Q sg)) sz43 trivial
      have TH47:=Lib.hid (World.there_setCells TH44.out (v1.heap.size) 0 (sgL Q sg))
      have sz48:=sz_setk (b:=(v1.heap.size)) (o:=0) (vs:=(sgL Q sg)) sz45 trivial
      have RG49:=Lib.hid (range_set (o:=0) (cs:=sgL Q sg) TH42.out (by rw [sgL_len]))
      try simp only [Act.put]
      refine wpAnyH_ready (rs:=[10]) (by kernel_rfl) (by simp) ?_
      refine AllReadyH.cons rfl (fun K hK=>?_) AllReadyH.nil
      simp only [List.getElem_toArray,List.getElem_cons_succ,List.getElem_cons_zero]
      rw [if_pos (by rfl)]
      with_reducible refine wst88 (v1.heap.size + 1) 0 R false ?_ TH47.out ?_
      · exact ⟨_,_,rfl,rfl,rfl⟩
      refine hK.out _ _ ?_ (fun hH19=>?_)
      · exact ⟨below_set hH18.1 (by omega) _ _,range_setk hH18.2.1 (by first | trivial | omega),sz_setk hH18.2.2 (by first | trivial | omega)⟩
      clear hK K
      have sz50:=sz_setk (b:=(v1.heap.size + 1)) (o:=0) (vs:=(sgL R false)) sz46 trivial
      have sz51:=sz_setk (b:=(v1.heap.size + 1)) (o:=0) (vs:=(sgL R false)) sz48 trivial
      have RG52:=Lib.hid (range_setk (b2:=(v1.heap.size + 1)) (o2:=0) (vs:=(sgL R false)) RG49.out (by omega))
      have RG53:=Lib.hid (range_set (o:=0) (cs:=sgL R false) TH47.out (by rw [sgL_len]))
      try simp only [Act.put]
      refine wpAnyH_done (by kernel_rfl) ?_ _
      exact FIN (v1.heap.size) (v1.heap.size + 1) _ hH19.1 RG52.out RG53.out
    refine AllReadyH.cons rfl (fun K hK=>?_) AllReadyH.nil
    simp only [List.getElem_toArray,List.getElem_cons_succ,List.getElem_cons_zero]
    rw [if_pos (by rfl)]
    with_reducible refine walb 88 _ (v1.heap.size) ?_ ?_ z88 ?_
    · rfl
    · first | rfl | simp [size_setCells]
    refine hK.out _ _ ?_ (fun hH20=>?_)
    · exact ⟨(hH1.1).alloc (hH1.1).size _,World.rangeAt_alloc hH1.2.1 _,sz_keep hH1.2.2 ((Below.refl _ _).alloc (Nat.le_refl _) _)⟩
    clear hK K
    have lo20 : w2.heap.size + 1 <= v1.heap.size:=by first | exact hH1.2.2 | (have:=hH1.2.2;simp [size_setCells] at this;omega)
    have TH54:=Lib.hid (there_at (b:=v1.heap.size) (by first | rfl | simp [size_setCells]) _ 88 (by rw [sgL_len]) : World.there (v1.alloc (.cells (sgL 0 false).toArray 88)) (v1.heap.size) 0 31)
    have sz54 : v1.heap.size + 1 <= (v1.alloc (.cells (sgL 0 false).toArray 88)).heap.size:=by simp []
    try simp only [Act.put,List.setIfInBounds_toArray,List.set_cons_zero,List.set_cons_succ]
    refine wpAnyH_ready (rs:=[3,7]) (by kernel_rfl) (by simp) ?_
    refine AllReadyH.cons rfl (fun K hK=>?_) ?_
    · simp only [List.getElem_toArray,List.getElem_cons_succ,List.getElem_cons_zero]
      rw [if_pos (by rfl)]
      go_simp
      refine (C3.out _).mono ?_;rintro e v21 ⟨rfl,hb21⟩
      try simp only []
      refine hK.out _ _ ?_ (fun hH21=>?_)
      · exact ⟨(hH20.1).trans (hb21.mono (hH20.1).size),range_keep hH20.2.1 hb21,sz_keep hH20.2.2 hb21⟩
      clear hK K
      have TH55:=Lib.hid (there_keep TH54.out hb21)
      have sz56:=sz_keep sz54 hb21
      try simp only [Act.put,List.getElem_toArray,List.getElem_cons_succ,List.getElem_cons_zero,List.setIfInBounds_toArray,List.set_cons_zero,List.set_cons_succ]
      refine wpAnyH_take (i:=4) (v:=(.tuple #[.agg (sgL Q sg).toArray,.agg (sgL R false).toArray])) rfl (by kernel_rfl) (by kernel_rfl) (by kernel_rfl) (fun _ _ _ h=>h) (Or.inl ⟨by rfl,fun wz hz=>by skip;go_simp⟩) hH21 ?_
      try simp only [Act.put,List.getElem_toArray,List.getElem_cons_succ,List.getElem_cons_zero,List.setIfInBounds_toArray,List.set_cons_zero,List.set_cons_succ]
      refine wpAnyH_take (i:=5) (v:=(.agg (sgL Q sg).toArray)) rfl (by kernel_rfl) (by kernel_rfl) (by kernel_rfl) (fun _ _ _ h=>h) (Or.inl ⟨by rfl,fun wz hz=>by skip;go_simp⟩) hH21 ?_
      try simp only [Act.put,List.getElem_toArray,List.getElem_cons_succ,List.getElem_cons_zero,List.setIfInBounds_toArray,List.set_cons_zero,List.set_cons_succ]
      refine wpAnyH_take (i:=6) (v:=(.agg (sgL R false).toArray)) rfl (by kernel_rfl) (by kernel_rfl) (by kernel_rfl) (fun _ _ _ h=>h) (Or.inl ⟨by rfl,fun wz hz=>by skip;go_simp⟩) hH21 ?_
      try simp only [Act.put,List.getElem_toArray,List.getElem_cons_succ,List.getElem_cons_zero,List.setIfInBounds_toArray,List.set_cons_zero,List.set_cons_succ]
      refine wpAnyH_ready (rs:=[7]) (by kernel_rfl) (by simp) ?_
      refine AllReadyH.cons rfl (fun K hK=>?_) AllReadyH.nil
      simp only [List.getElem_toArray,List.getElem_cons_succ,List.getElem_cons_zero]
      rw [if_pos (by rfl)]
      with_reducible refine walb 88 _ (v21.heap.size) ?_ ?_ z88 ?_
      · rfl
      · first | rfl | simp [size_setCells]
      refine hK.out _ _ ?_ (fun hH22=>?_)
      · exact ⟨(hH21.1).alloc (hH21.1).size _,World.rangeAt_alloc hH21.2.1 _,sz_keep hH21.2.2 ((Below.refl _ _).alloc (Nat.le_refl _) _)⟩
      clear hK K
      have lo22 : w2.heap.size + 1 <= v21.heap.size:=by first | exact hH21.2.2 | (have:=hH21.2.2;simp [size_setCells] at this;omega)
      have TH57:=Lib.hid (World.there_alloc TH55.out (.cells (sgL 0 false).toArray 88))
      have sz58:=sz_keep sz56 ((Below.refl _ _).alloc (Nat.le_refl _) (.cells (sgL 0 false).toArray 88))
      have TH59:=Lib.hid (there_at (b:=v21.heap.size) (by first | rfl | simp [size_setCells]) _ 88 (by rw [sgL_len]) : World.there (v21.alloc (.cells (sgL 0 false).toArray 88)) (v21.heap.size) 0 31)
      have sz59 : v21.heap.size + 1 <= (v21.alloc (.cells (sgL 0 false).toArray 88)).heap.size:=by simp []
      try simp only [Act.put,List.setIfInBounds_toArray,List.set_cons_zero,List.set_cons_succ]
      refine wpAnyH_ready (rs:=[9]) (by kernel_rfl) (by simp) ?_
      refine AllReadyH.cons rfl (fun K hK=>?_) AllReadyH.nil
      simp only [List.getElem_toArray,List.getElem_cons_succ,List.getElem_cons_zero]
      rw [if_pos (by rfl)]
      with_reducible refine wst88 (v21.heap.size) 0 Q sg ?_ TH59.out ?_
      · exact ⟨_,_,rfl,rfl,rfl⟩
      refine hK.out _ _ ?_ (fun hH23=>?_)
      · exact ⟨below_set hH22.1 (by omega) _ _,range_setk hH22.2.1 (by first | trivial | omega),sz_setk hH22.2.2 (by first | trivial | omega)⟩
      clear hK K
      have TH60:=Lib.hid (World.there_setCells TH57.out (v21.heap.size) 0 (sgL Q sg))
      have sz61:=sz_setk (b:=(v21.heap.size)) (o:=0) (vs:=(sgL Q sg)) sz58 trivial
      have sz62:=sz_setk (b:=(v21.heap.size)) (o:=0) (vs:=(sgL Q sg)) sz59 trivial
      have RG63:=Lib.hid (range_set (o:=0) (cs:=sgL Q sg) TH59.out (by rw [sgL_len]))
      try simp only [Act.put]
      refine wpAnyH_ready (rs:=[10]) (by kernel_rfl) (by simp) ?_
      refine AllReadyH.cons rfl (fun K hK=>?_) AllReadyH.nil
      simp only [List.getElem_toArray,List.getElem_cons_succ,List.getElem_cons_zero]
      rw [if_pos (by rfl)]
      with_reducible refine wst88 (v1.heap.size) 0 R false ?_ TH60.out ?_
      · exact ⟨_,_,rfl,rfl,rfl⟩
      refine hK.out _ _ ?_ (fun hH24=>?_)
      · exact ⟨below_set hH23.1 (by omega) _ _,range_setk hH23.2.1 (by first | trivial | omega),sz_setk hH23.2.2 (by first | trivial | omega)⟩
      clear hK K
      have sz64:=sz_setk (b:=(v1.heap.size)) (o:=0) (vs:=(sgL R false)) sz61 trivial
      have sz65:=sz_setk (b:=(v1.heap.size)) (o:=0) (vs:=(sgL R false)) sz62 trivial
      have RG66:=Lib.hid (range_setk (b2:=(v1.heap.size)) (o2:=0) (vs:=(sgL R false)) RG63.out (by omega))
      have RG67:=Lib.hid (range_set (o:=0) (cs:=sgL R false) TH60.out (by rw [sgL_len]))
      try simp only [Act.put]
      refine wpAnyH_done (by kernel_rfl) ?_ _
      exact FIN (v21.heap.size) (v1.heap.size) _ hH24.1 RG66.out RG67.out
    refine AllReadyH.cons rfl (fun K hK=>?_) AllReadyH.nil
    simp only [List.getElem_toArray,List.getElem_cons_succ,List.getElem_cons_zero]
    rw [if_pos (by rfl)]
    with_reducible refine walb 88 _ (v1.heap.size + 1) ?_ ?_ z88 ?_
    · rfl
    · first | rfl | simp []
    refine hK.out _ _ ?_ (fun hH25=>?_)
    · exact ⟨(hH20.1).alloc (hH20.1).size _,World.rangeAt_alloc hH20.2.1 _,sz_keep hH20.2.2 ((Below.refl _ _).alloc (Nat.le_refl _) _)⟩
    clear hK K
    have lo25 : w2.heap.size + 1 <= v1.heap.size + 1:=by first | exact hH20.2.2 | (have:=hH20.2.2;simp [] at this;omega)
    have TH68:=Lib.hid (World.there_alloc TH54.out (.cells (sgL 0 false).toArray 88))
    have sz69:=sz_keep sz54 ((Below.refl _ _).alloc (Nat.le_refl _) (.cells (sgL 0 false).toArray 88))
    have TH70:=Lib.hid (there_at (b:=v1.heap.size + 1) (by first | rfl | simp []) _ 88 (by rw [sgL_len]) : World.there ((v1.alloc (.cells (sgL 0 false).toArray 88)).alloc (.cells (sgL 0 false).toArray 88)) (v1.heap.size + 1) 0 31)
    have sz70 : v1.heap.size + 1 + 1 <= ((v1.alloc (.cells (sgL 0 false).toArray 88)).alloc (.cells (sgL 0 false).toArray 88)).heap.size:=by simp []
    try simp only [Act.put,List.setIfInBounds_toArray,List.set_cons_zero,List.set_cons_succ]
    refine wpAnyH_ready (rs:=[3]) (by kernel_rfl) (by simp) ?_
    refine AllReadyH.cons rfl (fun K hK=>?_) AllReadyH.nil
    simp only [List.getElem_toArray,List.getElem_cons_succ,List.getElem_cons_zero]
    rw [if_pos (by rfl)]
    go_simp
    refine (C3.out _).mono ?_;rintro e v26 ⟨rfl,hb26⟩
    try simp only []
    refine hK.out _ _ ?_ (fun hH26=>?_)
    · exact ⟨(hH25.1).trans (hb26.mono (hH25.1).size),range_keep hH25.2.1 hb26,sz_keep hH25.2.2 hb26⟩
    clear hK K
    have TH71:=Lib.hid (there_keep TH68.out hb26)
    have sz72:=sz_keep sz69 hb26
    have TH73:=Lib.hid (there_keep TH70.out hb26)
    have sz74:=sz_keep sz70 hb26
    try simp only [Act.put,List.getElem_toArray,List.getElem_cons_succ,List.getElem_cons_zero,List.setIfInBounds_toArray,List.set_cons_zero,List.set_cons_succ]
    refine wpAnyH_take (i:=4) (v:=(.tuple #[.agg (sgL Q sg).toArray,.agg (sgL R false).toArray])) rfl (by kernel_rfl) (by kernel_rfl) (by kernel_rfl) (fun _ _ _ h=>h) (Or.inl ⟨by rfl,fun wz hz=>by skip;go_simp⟩) hH26 ?_
    try simp only [Act.put,List.getElem_toArray,List.getElem_cons_succ,List.getElem_cons_zero,List.setIfInBounds_toArray,List.set_cons_zero,List.set_cons_succ]
    refine wpAnyH_take (i:=5) (v:=(.agg (sgL Q sg).toArray)) rfl (by kernel_rfl) (by kernel_rfl) (by kernel_rfl) (fun _ _ _ h=>h) (Or.inl ⟨by rfl,fun wz hz=>by skip;go_simp⟩) hH26 ?_
    try simp only [Act.put,List.getElem_toArray,List.getElem_cons_succ,List.getElem_cons_zero,List.setIfInBounds_toArray,List.set_cons_zero,List.set_cons_succ]
    refine wpAnyH_take (i:=6) (v:=(.agg (sgL R false).toArray)) rfl (by kernel_rfl) (by kernel_rfl) (by kernel_rfl) (fun _ _ _ h=>h) (Or.inl ⟨by rfl,fun wz hz=>by skip;go_simp⟩) hH26 ?_
    try simp only [Act.put,List.getElem_toArray,List.getElem_cons_succ,List.getElem_cons_zero,List.setIfInBounds_toArray,List.set_cons_zero,List.set_cons_succ]
    refine wpAnyH_ready (rs:=[9]) (by kernel_rfl) (by simp) ?_
    refine AllReadyH.cons rfl (fun K hK=>?_) AllReadyH.nil
    simp only [List.getElem_toArray,List.getElem_cons_succ,List.getElem_cons_zero]
    rw [if_pos (by rfl)]
    with_reducible refine wst88 (v1.heap.size + 1) 0 Q sg ?_ TH73.out ?_
    · exact ⟨_,_,rfl,rfl,rfl⟩
    refine hK.out _ _ ?_ (fun hH27=>?_)
    · exact ⟨below_set hH26.1 (by omega) _ _,range_setk hH26.2.1 (by first | trivial | omega),sz_setk hH26.2.2 (by first | trivial | omega)⟩
    clear hK K
    have TH75:=Lib.hid (World.there_setCells TH71.out (v1.heap.size + 1) 0 (sgL Q sg))
    have sz76:=sz_setk (b:=(v1.heap.size + 1)) (o:=0) (vs:=(sgL Q sg)) sz72 trivial
    have sz77:=sz_setk (b:=(v1.heap.size + 1)) (o:=0) (vs:=(sgL Q sg)) sz74 trivial
    have RG78:=Lib.hid (range_set (o:=0) (cs:=sgL Q sg) TH73.out (by rw [sgL_len]))
    try simp only [Act.put]
    refine wpAnyH_ready (rs:=[10]) (by kernel_rfl) (by simp) ?_
    refine AllReadyH.cons rfl (fun K hK=>?_) AllReadyH.nil
    simp only [List.getElem_toArray,List.getElem_cons_succ,List.getElem_cons_zero]
    rw [if_pos (by rfl)]
    with_reducible refine wst88 (v1.heap.size) 0 R false ?_ TH75.out ?_
    · exact ⟨_,_,rfl,rfl,rfl⟩
    refine hK.out _ _ ?_ (fun hH28=>?_)
    · exact ⟨below_set hH27.1 (by omega) _ _,range_setk hH27.2.1 (by first | trivial | omega),sz_setk hH27.2.2 (by first | trivial | omega)⟩
    clear hK K
    have sz79:=sz_setk (b:=(v1.heap.size)) (o:=0) (vs:=(sgL R false)) sz76 trivial
    have sz80:=sz_setk (b:=(v1.heap.size)) (o:=0) (vs:=(sgL R false)) sz77 trivial
    have RG81:=Lib.hid (range_setk (b2:=(v1.heap.size)) (o2:=0) (vs:=(sgL R false)) RG78.out (by omega))
    have RG82:=Lib.hid (range_set (o:=0) (cs:=sgL R false) TH75.out (by rw [sgL_len]))
    try simp only [Act.put]
    refine wpAnyH_done (by kernel_rfl) ?_ _
    exact FIN (v1.heap.size + 1) (v1.heap.size) _ hH28.1 RG81.out RG82.out
  refine AllReadyH.cons rfl (fun K hK=>?_) ?_
  · simp only [List.getElem_toArray,List.getElem_cons_succ,List.getElem_cons_zero]
    rw [if_pos (by rfl)]
    with_reducible refine walb 88 _ (w3.heap.size) ?_ ?_ z88 ?_
    · rfl
    · first | rfl | simp [size_setCells]
    refine hK.out _ _ ?_ (fun hH29=>?_)
    · exact ⟨(hH.1).alloc (hH.1).size _,World.rangeAt_alloc hH.2.1 _,sz_keep hH.2.2 ((Below.refl _ _).alloc (Nat.le_refl _) _)⟩
    clear hK K
    have lo29 : w2.heap.size + 1 <= w3.heap.size:=by first | exact hH.2.2 | (have:=hH.2.2;simp [size_setCells] at this;omega)
    have TH83:=Lib.hid (there_at (b:=w3.heap.size) (by first | rfl | simp [size_setCells]) _ 88 (by rw [sgL_len]) : World.there (w3.drew.alloc (.cells (sgL 0 false).toArray 88)) (w3.heap.size) 0 31)
    have sz83 : w3.heap.size + 1 <= (w3.drew.alloc (.cells (sgL 0 false).toArray 88)).heap.size:=by simp []
    try simp only [Act.put,List.setIfInBounds_toArray,List.set_cons_zero,List.set_cons_succ]
    refine wpAnyH_ready (rs:=[1,8]) (by kernel_rfl) (by simp) ?_
    refine AllReadyH.cons rfl (fun K hK=>?_) ?_
    · simp only [List.getElem_toArray,List.getElem_cons_succ,List.getElem_cons_zero]
      rw [if_pos (by rfl)]
      go_simp
      refine (C1.out _ (HG.out.keep hH29.1)).mono ?_;rintro e v30 ⟨rfl,hb30⟩
      try simp only []
      refine hK.out _ _ ?_ (fun hH30=>?_)
      · exact ⟨(hH29.1).trans (hb30.mono (hH29.1).size),range_keep hH29.2.1 hb30,sz_keep hH29.2.2 hb30⟩
      clear hK K
      have TH84:=Lib.hid (there_keep TH83.out hb30)
      have sz85:=sz_keep sz83 hb30
      try simp only [Act.put,List.getElem_toArray,List.getElem_cons_succ,List.getElem_cons_zero,List.setIfInBounds_toArray,List.set_cons_zero,List.set_cons_succ]
      refine wpAnyH_ready (rs:=[3,8]) (by kernel_rfl) (by simp) ?_
      refine AllReadyH.cons rfl (fun K hK=>?_) ?_
      · simp only [List.getElem_toArray,List.getElem_cons_succ,List.getElem_cons_zero]
        rw [if_pos (by rfl)]
        go_simp
        refine (C3.out _).mono ?_;rintro e v31 ⟨rfl,hb31⟩
        try simp only []
        refine hK.out _ _ ?_ (fun hH31=>?_)
        · exact ⟨(hH30.1).trans (hb31.mono (hH30.1).size),range_keep hH30.2.1 hb31,sz_keep hH30.2.2 hb31⟩
        clear hK K
        have TH86:=Lib.hid (there_keep TH84.out hb31)
        have sz87:=sz_keep sz85 hb31
        try simp only [Act.put,List.getElem_toArray,List.getElem_cons_succ,List.getElem_cons_zero,List.setIfInBounds_toArray,List.set_cons_zero,List.set_cons_succ]
        refine wpAnyH_take (i:=4) (v:=(.tuple #[.agg (sgL Q sg).toArray,.agg (sgL R false).toArray])) rfl (by kernel_rfl) (by kernel_rfl) (by kernel_rfl) (fun _ _ _ h=>h) (Or.inl ⟨by rfl,fun wz hz=>by skip;go_simp⟩) hH31 ?_
        try simp only [Act.put,List.getElem_toArray,List.getElem_cons_succ,List.getElem_cons_zero,List.setIfInBounds_toArray,List.set_cons_zero,List.set_cons_succ]
        refine wpAnyH_take (i:=5) (v:=(.agg (sgL Q sg).toArray)) rfl (by kernel_rfl) (by kernel_rfl) (by kernel_rfl) (fun _ _ _ h=>h) (Or.inl ⟨by rfl,fun wz hz=>by skip;go_simp⟩) hH31 ?_
        try simp only [Act.put,List.getElem_toArray,List.getElem_cons_succ,List.getElem_cons_zero,List.setIfInBounds_toArray,List.set_cons_zero,List.set_cons_succ]
        refine wpAnyH_take (i:=6) (v:=(.agg (sgL R false).toArray)) rfl (by kernel_rfl) (by kernel_rfl) (by kernel_rfl) (fun _ _ _ h=>h) (Or.inl ⟨by rfl,fun wz hz=>by skip;go_simp⟩) hH31 ?_
        try simp only [Act.put,List.getElem_toArray,List.getElem_cons_succ,List.getElem_cons_zero,List.setIfInBounds_toArray,List.set_cons_zero,List.set_cons_succ]
        refine wpAnyH_ready (rs:=[8]) (by kernel_rfl) (by simp) ?_
        refine AllReadyH.cons rfl (fun K hK=>?_) AllReadyH.nil
        simp only [List.getElem_toArray,List.getElem_cons_succ,List.getElem_cons_zero]
        rw [if_pos (by rfl)]
        with_reducible refine walb 88 _ (v31.heap.size) ?_ ?_ z88 ?_
        · rfl
        · first | rfl | simp [size_setCells]
        refine hK.out _ _ ?_ (fun hH32=>?_)
        · exact ⟨(hH31.1).alloc (hH31.1).size _,World.rangeAt_alloc hH31.2.1 _,sz_keep hH31.2.2 ((Below.refl _ _).alloc (Nat.le_refl _) _)⟩
        clear hK K
        have lo32 : w2.heap.size + 1 <= v31.heap.size:=by first | exact hH31.2.2 | (have:=hH31.2.2;simp [size_setCells] at this;omega)
        have TH88:=Lib.hid (World.there_alloc TH86.out (.cells (sgL 0 false).toArray 88))
        have sz89:=sz_keep sz87 ((Below.refl _ _).alloc (Nat.le_refl _) (.cells (sgL 0 false).toArray 88))
        have TH90:=Lib.hid (there_at (b:=v31.heap.size) (by first | rfl | simp [size_setCells]) _ 88 (by rw [sgL_len]) : World.there (v31.alloc (.cells (sgL 0 false).toArray 88)) (v31.heap.size) 0 31)
        have sz90 : v31.heap.size + 1 <= (v31.alloc (.cells (sgL 0 false).toArray 88)).heap.size:=by simp []
        try simp only [Act.put,List.setIfInBounds_toArray,List.set_cons_zero,List.set_cons_succ]
        refine wpAnyH_ready (rs:=[9]) (by kernel_rfl) (by simp) ?_
        refine AllReadyH.cons rfl (fun K hK=>?_) AllReadyH.nil
        simp only [List.getElem_toArray,List.getElem_cons_succ,List.getElem_cons_zero]
        rw [if_pos (by rfl)]
        with_reducible refine wst88 (w3.heap.size) 0 Q sg ?_ TH88.out ?_
        · exact ⟨_,_,rfl,rfl,rfl⟩
        refine hK.out _ _ ?_ (fun hH33=>?_)
        · exact ⟨below_set hH32.1 (by omega) _ _,range_setk hH32.2.1 (by first | trivial | omega),sz_setk hH32.2.2 (by first | trivial | omega)⟩
        clear hK K
        have sz91:=sz_setk (b:=(w3.heap.size)) (o:=0) (vs:=(sgL Q sg)) sz89 trivial
        have TH92:=Lib.hid (World.there_setCells TH90.out (w3.heap.size) 0 (sgL Q sg))
        have sz93:=sz_setk (b:=(w3.heap.size)) (o:=0) (vs:=(sgL Q sg)) sz90 trivial
        have RG94:=Lib.hid (range_set (o:=0) (cs:=sgL Q sg) TH88.out (by rw [sgL_len]))
        try simp only [Act.put]
        refine wpAnyH_ready (rs:=[10]) (by kernel_rfl) (by simp) ?_
        refine AllReadyH.cons rfl (fun K hK=>?_) AllReadyH.nil
        simp only [List.getElem_toArray,List.getElem_cons_succ,List.getElem_cons_zero]
        rw [if_pos (by rfl)]
        with_reducible refine wst88 (v31.heap.size) 0 R false ?_ TH92.out ?_
        · exact ⟨_,_,rfl,rfl,rfl⟩
        refine hK.out _ _ ?_ (fun hH34=>?_)
        · exact ⟨below_set hH33.1 (by omega) _ _,range_setk hH33.2.1 (by first | trivial | omega),sz_setk hH33.2.2 (by first | trivial | omega)⟩
        clear hK K
        have sz95:=sz_setk (b:=(v31.heap.size)) (o:=0) (vs:=(sgL R false)) sz91 trivial
        have sz96:=sz_setk (b:=(v31.heap.size)) (o:=0) (vs:=(sgL R false)) sz93 trivial
        have RG97:=Lib.hid (range_setk (b2:=(v31.heap.size)) (o2:=0) (vs:=(sgL R false)) RG94.out (by omega))
        have RG98:=Lib.hid (range_set (o:=0) (cs:=sgL R false) TH92.out (by rw [sgL_len]))
        try simp only [Act.put]
        refine wpAnyH_done (by kernel_rfl) ?_ _
        exact FIN (w3.heap.size) (v31.heap.size) _ hH34.1 RG97.out RG98.out
      refine AllReadyH.cons rfl (fun K hK=>?_) AllReadyH.nil
      simp only [List.getElem_toArray,List.getElem_cons_succ,List.getElem_cons_zero]
      rw [if_pos (by rfl)]
      with_reducible refine walb 88 _ (v30.heap.size) ?_ ?_ z88 ?_
      · rfl
      · first | rfl | simp [size_setCells]
      refine hK.out _ _ ?_ (fun hH35=>?_)
      · exact ⟨(hH30.1).alloc (hH30.1).size _,World.rangeAt_alloc hH30.2.1 _,sz_keep hH30.2.2 ((Below.refl _ _).alloc (Nat.le_refl _) _)⟩
      clear hK K
      have lo35 : w2.heap.size + 1 <= v30.heap.size:=by first | exact hH30.2.2 | (have:=hH30.2.2;simp [size_setCells] at this;omega)
      have TH99:=Lib.hid (World.there_alloc TH84.out (.cells (sgL 0 false).toArray 88))
      have sz100:=sz_keep sz85 ((Below.refl _ _).alloc (Nat.le_refl _) (.cells (sgL 0 false).toArray 88))
      have TH101:=Lib.hid (there_at (b:=v30.heap.size) (by first | rfl | simp [size_setCells]) _ 88 (by rw [sgL_len]) : World.there (v30.alloc (.cells (sgL 0 false).toArray 88)) (v30.heap.size) 0 31)
      have sz101 : v30.heap.size + 1 <= (v30.alloc (.cells (sgL 0 false).toArray 88)).heap.size:=by simp []
      try simp only [Act.put,List.setIfInBounds_toArray,List.set_cons_zero,List.set_cons_succ]
      refine wpAnyH_ready (rs:=[3]) (by kernel_rfl) (by simp) ?_
      refine AllReadyH.cons rfl (fun K hK=>?_) AllReadyH.nil
      simp only [List.getElem_toArray,List.getElem_cons_succ,List.getElem_cons_zero]
      rw [if_pos (by rfl)]
      go_simp
      refine (C3.out _).mono ?_;rintro e v36 ⟨rfl,hb36⟩
      try simp only []
      refine hK.out _ _ ?_ (fun hH36=>?_)
      · exact ⟨(hH35.1).trans (hb36.mono (hH35.1).size),range_keep hH35.2.1 hb36,sz_keep hH35.2.2 hb36⟩
      clear hK K
      have TH102:=Lib.hid (there_keep TH99.out hb36)
      have sz103:=sz_keep sz100 hb36
      have TH104:=Lib.hid (there_keep TH101.out hb36)
      have sz105:=sz_keep sz101 hb36
      try simp only [Act.put,List.getElem_toArray,List.getElem_cons_succ,List.getElem_cons_zero,List.setIfInBounds_toArray,List.set_cons_zero,List.set_cons_succ]
      refine wpAnyH_take (i:=4) (v:=(.tuple #[.agg (sgL Q sg).toArray,.agg (sgL R false).toArray])) rfl (by kernel_rfl) (by kernel_rfl) (by kernel_rfl) (fun _ _ _ h=>h) (Or.inl ⟨by rfl,fun wz hz=>by skip;go_simp⟩) hH36 ?_
      try simp only [Act.put,List.getElem_toArray,List.getElem_cons_succ,List.getElem_cons_zero,List.setIfInBounds_toArray,List.set_cons_zero,List.set_cons_succ]
      refine wpAnyH_take (i:=5) (v:=(.agg (sgL Q sg).toArray)) rfl (by kernel_rfl) (by kernel_rfl) (by kernel_rfl) (fun _ _ _ h=>h) (Or.inl ⟨by rfl,fun wz hz=>by skip;go_simp⟩) hH36 ?_
      try simp only [Act.put,List.getElem_toArray,List.getElem_cons_succ,List.getElem_cons_zero,List.setIfInBounds_toArray,List.set_cons_zero,List.set_cons_succ]
      refine wpAnyH_take (i:=6) (v:=(.agg (sgL R false).toArray)) rfl (by kernel_rfl) (by kernel_rfl) (by kernel_rfl) (fun _ _ _ h=>h) (Or.inl ⟨by rfl,fun wz hz=>by skip;go_simp⟩) hH36 ?_
      try simp only [Act.put,List.getElem_toArray,List.getElem_cons_succ,List.getElem_cons_zero,List.setIfInBounds_toArray,List.set_cons_zero,List.set_cons_succ]
      refine wpAnyH_ready (rs:=[9]) (by kernel_rfl) (by simp) ?_
      refine AllReadyH.cons rfl (fun K hK=>?_) AllReadyH.nil
      simp only [List.getElem_toArray,List.getElem_cons_succ,List.getElem_cons_zero]
      rw [if_pos (by rfl)]
      with_reducible refine wst88 (w3.heap.size) 0 Q sg ?_ TH102.out ?_
      · exact ⟨_,_,rfl,rfl,rfl⟩
      refine hK.out _ _ ?_ (fun hH37=>?_)
      · exact ⟨below_set hH36.1 (by omega) _ _,range_setk hH36.2.1 (by first | trivial | omega),sz_setk hH36.2.2 (by first | trivial | omega)⟩
      clear hK K
      have sz106:=sz_setk (b:=(w3.heap.size)) (o:=0) (vs:=(sgL Q sg)) sz103 trivial
      have TH107:=Lib.hid (World.there_setCells TH104.out (w3.heap.size) 0 (sgL Q sg))
      have sz108:=sz_setk (b:=(w3.heap.size)) (o:=0) (vs:=(sgL Q sg)) sz105 trivial
      have RG109:=Lib.hid (range_set (o:=0) (cs:=sgL Q sg) TH102.out (by rw [sgL_len]))
      try simp only [Act.put]
      refine wpAnyH_ready (rs:=[10]) (by kernel_rfl) (by simp) ?_
      refine AllReadyH.cons rfl (fun K hK=>?_) AllReadyH.nil
      simp only [List.getElem_toArray,List.getElem_cons_succ,List.getElem_cons_zero]
      rw [if_pos (by rfl)]
      with_reducible refine wst88 (v30.heap.size) 0 R false ?_ TH107.out ?_
      · exact ⟨_,_,rfl,rfl,rfl⟩
      refine hK.out _ _ ?_ (fun hH38=>?_)
      · exact ⟨below_set hH37.1 (by omega) _ _,range_setk hH37.2.1 (by first | trivial | omega),sz_setk hH37.2.2 (by first | trivial | omega)⟩
      clear hK K
      have sz110:=sz_setk (b:=(v30.heap.size)) (o:=0) (vs:=(sgL R false)) sz106 trivial
      have sz111:=sz_setk (b:=(v30.heap.size)) (o:=0) (vs:=(sgL R false)) sz108 trivial
      have RG112:=Lib.hid (range_setk (b2:=(v30.heap.size)) (o2:=0) (vs:=(sgL R false)) RG109.out (by omega))
      have RG113:=Lib.hid (range_set (o:=0) (cs:=sgL R false) TH107.out (by rw [sgL_len]))
      try simp only [Act.put]
      refine wpAnyH_done (by kernel_rfl) ?_ _
      exact FIN (w3.heap.size) (v30.heap.size) _ hH38.1 RG112.out RG113.out
    refine AllReadyH.cons rfl (fun K hK=>?_) AllReadyH.nil
    simp only [List.getElem_toArray,List.getElem_cons_succ,List.getElem_cons_zero]
    rw [if_pos (by rfl)]
    with_reducible refine walb 88 _ (w3.heap.size + 1) ?_ ?_ z88 ?_
    · rfl
    · first | rfl | simp []
    refine hK.out _ _ ?_ (fun hH39=>?_)
    · exact ⟨(hH29.1).alloc (hH29.1).size _,World.rangeAt_alloc hH29.2.1 _,sz_keep hH29.2.2 ((Below.refl _ _).alloc (Nat.le_refl _) _)⟩
    clear hK K
    have lo39 : w2.heap.size + 1 <= w3.heap.size + 1:=by first | exact hH29.2.2 | (have:=hH29.2.2;simp [] at this;omega)
    have TH114:=Lib.hid (World.there_alloc TH83.out (.cells (sgL 0 false).toArray 88))
    have sz115:=sz_keep sz83 ((Below.refl _ _).alloc (Nat.le_refl _) (.cells (sgL 0 false).toArray 88))
    have TH116:=Lib.hid (there_at (b:=w3.heap.size + 1) (by first | rfl | simp []) _ 88 (by rw [sgL_len]) : World.there ((w3.drew.alloc (.cells (sgL 0 false).toArray 88)).alloc (.cells (sgL 0 false).toArray 88)) (w3.heap.size + 1) 0 31)
    have sz116 : w3.heap.size + 1 + 1 <= ((w3.drew.alloc (.cells (sgL 0 false).toArray 88)).alloc (.cells (sgL 0 false).toArray 88)).heap.size:=by simp []
    try simp only [Act.put,List.setIfInBounds_toArray,List.set_cons_zero,List.set_cons_succ]
    refine wpAnyH_ready (rs:=[1]) (by kernel_rfl) (by simp) ?_
    refine AllReadyH.cons rfl (fun K hK=>?_) AllReadyH.nil
    simp only [List.getElem_toArray,List.getElem_cons_succ,List.getElem_cons_zero]
    rw [if_pos (by rfl)]
    go_simp
    refine (C1.out _ (HG.out.keep hH39.1)).mono ?_;rintro e v40 ⟨rfl,hb40⟩
    try simp only []
    refine hK.out _ _ ?_ (fun hH40=>?_)
    · exact ⟨(hH39.1).trans (hb40.mono (hH39.1).size),range_keep hH39.2.1 hb40,sz_keep hH39.2.2 hb40⟩
    clear hK K
    have TH117:=Lib.hid (there_keep TH114.out hb40)
    have sz118:=sz_keep sz115 hb40
    have TH119:=Lib.hid (there_keep TH116.out hb40)
    have sz120:=sz_keep sz116 hb40
    try simp only [Act.put,List.getElem_toArray,List.getElem_cons_succ,List.getElem_cons_zero,List.setIfInBounds_toArray,List.set_cons_zero,List.set_cons_succ]
    refine wpAnyH_ready (rs:=[3]) (by kernel_rfl) (by simp) ?_
    refine AllReadyH.cons rfl (fun K hK=>?_) AllReadyH.nil
    simp only [List.getElem_toArray,List.getElem_cons_succ,List.getElem_cons_zero]
    rw [if_pos (by rfl)]
    go_simp
    refine (C3.out _).mono ?_;rintro e v41 ⟨rfl,hb41⟩
    try simp only []
    refine hK.out _ _ ?_ (fun hH41=>?_)
    · exact ⟨(hH40.1).trans (hb41.mono (hH40.1).size),range_keep hH40.2.1 hb41,sz_keep hH40.2.2 hb41⟩
    clear hK K
    have TH121:=Lib.hid (there_keep TH117.out hb41)
    have sz122:=sz_keep sz118 hb41
    have TH123:=Lib.hid (there_keep TH119.out hb41)
    have sz124:=sz_keep sz120 hb41
    try simp only [Act.put,List.getElem_toArray,List.getElem_cons_succ,List.getElem_cons_zero,List.setIfInBounds_toArray,List.set_cons_zero,List.set_cons_succ]
    refine wpAnyH_take (i:=4) (v:=(.tuple #[.agg (sgL Q sg).toArray,.agg (sgL R false).toArray])) rfl (by kernel_rfl) (by kernel_rfl) (by kernel_rfl) (fun _ _ _ h=>h) (Or.inl ⟨by rfl,fun wz hz=>by skip;go_simp⟩) hH41 ?_
    try simp only [Act.put,List.getElem_toArray,List.getElem_cons_succ,List.getElem_cons_zero,List.setIfInBounds_toArray,List.set_cons_zero,List.set_cons_succ]
    refine wpAnyH_take (i:=5) (v:=(.agg (sgL Q sg).toArray)) rfl (by kernel_rfl) (by kernel_rfl) (by kernel_rfl) (fun _ _ _ h=>h) (Or.inl ⟨by rfl,fun wz hz=>by skip;go_simp⟩) hH41 ?_
    try simp only [Act.put,List.getElem_toArray,List.getElem_cons_succ,List.getElem_cons_zero,List.setIfInBounds_toArray,List.set_cons_zero,List.set_cons_succ]
    refine wpAnyH_take (i:=6) (v:=(.agg (sgL R false).toArray)) rfl (by kernel_rfl) (by kernel_rfl) (by kernel_rfl) (fun _ _ _ h=>h) (Or.inl ⟨by rfl,fun wz hz=>by skip;go_simp⟩) hH41 ?_
    try simp only [Act.put,List.getElem_toArray,List.getElem_cons_succ,List.getElem_cons_zero,List.setIfInBounds_toArray,List.set_cons_zero,List.set_cons_succ]
    refine wpAnyH_ready (rs:=[9]) (by kernel_rfl) (by simp) ?_
    refine AllReadyH.cons rfl (fun K hK=>?_) AllReadyH.nil
    simp only [List.getElem_toArray,List.getElem_cons_succ,List.getElem_cons_zero]
    rw [if_pos (by rfl)]
    with_reducible refine wst88 (w3.heap.size) 0 Q sg ?_ TH121.out ?_
    · exact ⟨_,_,rfl,rfl,rfl⟩
    refine hK.out _ _ ?_ (fun hH42=>?_)
    · exact ⟨below_set hH41.1 (by omega) _ _,range_setk hH41.2.1 (by first | trivial | omega),sz_setk hH41.2.2 (by first | trivial | omega)⟩
    clear hK K
    have sz125:=sz_setk (b:=(w3.heap.size)) (o:=0) (vs:=(sgL Q sg)) sz122 trivial
    have TH126:=Lib.hid (World.there_setCells TH123.out (w3.heap.size) 0 (sgL Q sg))
    have sz127:=sz_setk (b:=(w3.heap.size)) (o:=0) (vs:=(sgL Q sg)) sz124 trivial
    have RG128:=Lib.hid (range_set (o:=0) (cs:=sgL Q sg) TH121.out (by rw [sgL_len]))
    try simp only [Act.put]
    refine wpAnyH_ready (rs:=[10]) (by kernel_rfl) (by simp) ?_
    refine AllReadyH.cons rfl (fun K hK=>?_) AllReadyH.nil
    simp only [List.getElem_toArray,List.getElem_cons_succ,List.getElem_cons_zero]
    rw [if_pos (by rfl)]
    with_reducible refine wst88 (w3.heap.size + 1) 0 R false ?_ TH126.out ?_
    · exact ⟨_,_,rfl,rfl,rfl⟩
    refine hK.out _ _ ?_ (fun hH43=>?_)
    · exact ⟨below_set hH42.1 (by omega) _ _,range_setk hH42.2.1 (by first | trivial | omega),sz_setk hH42.2.2 (by first | trivial | omega)⟩
    clear hK K
    have sz129:=sz_setk (b:=(w3.heap.size + 1)) (o:=0) (vs:=(sgL R false)) sz125 trivial
    have sz130:=sz_setk (b:=(w3.heap.size + 1)) (o:=0) (vs:=(sgL R false)) sz127 trivial
    have RG131:=Lib.hid (range_setk (b2:=(w3.heap.size + 1)) (o2:=0) (vs:=(sgL R false)) RG128.out (by omega))
    have RG132:=Lib.hid (range_set (o:=0) (cs:=sgL R false) TH126.out (by rw [sgL_len]))
    try simp only [Act.put]
    refine wpAnyH_done (by kernel_rfl) ?_ _
    exact FIN (w3.heap.size) (w3.heap.size + 1) _ hH43.1 RG131.out RG132.out
  refine AllReadyH.cons rfl (fun K hK=>?_) AllReadyH.nil
  simp only [List.getElem_toArray,List.getElem_cons_succ,List.getElem_cons_zero]
  rw [if_pos (by rfl)]
  with_reducible refine walb 88 _ (w3.heap.size) ?_ ?_ z88 ?_
  · rfl
  · first | rfl | simp [size_setCells]
  refine hK.out _ _ ?_ (fun hH44=>?_)
  · exact ⟨(hH.1).alloc (hH.1).size _,World.rangeAt_alloc hH.2.1 _,sz_keep hH.2.2 ((Below.refl _ _).alloc (Nat.le_refl _) _)⟩
  clear hK K
  have lo44 : w2.heap.size + 1 <= w3.heap.size:=by first | exact hH.2.2 | (have:=hH.2.2;simp [size_setCells] at this;omega)
  have TH133:=Lib.hid (there_at (b:=w3.heap.size) (by first | rfl | simp [size_setCells]) _ 88 (by rw [sgL_len]) : World.there (w3.drew.alloc (.cells (sgL 0 false).toArray 88)) (w3.heap.size) 0 31)
  have sz133 : w3.heap.size + 1 <= (w3.drew.alloc (.cells (sgL 0 false).toArray 88)).heap.size:=by simp []
  try simp only [Act.put,List.setIfInBounds_toArray,List.set_cons_zero,List.set_cons_succ]
  refine wpAnyH_ready (rs:=[1,7]) (by kernel_rfl) (by simp) ?_
  refine AllReadyH.cons rfl (fun K hK=>?_) ?_
  · simp only [List.getElem_toArray,List.getElem_cons_succ,List.getElem_cons_zero]
    rw [if_pos (by rfl)]
    go_simp
    refine (C1.out _ (HG.out.keep hH44.1)).mono ?_;rintro e v45 ⟨rfl,hb45⟩
    try simp only []
    refine hK.out _ _ ?_ (fun hH45=>?_)
    · exact ⟨(hH44.1).trans (hb45.mono (hH44.1).size),range_keep hH44.2.1 hb45,sz_keep hH44.2.2 hb45⟩
    clear hK K
    have TH134:=Lib.hid (there_keep TH133.out hb45)
    have sz135:=sz_keep sz133 hb45
    try simp only [Act.put,List.getElem_toArray,List.getElem_cons_succ,List.getElem_cons_zero,List.setIfInBounds_toArray,List.set_cons_zero,List.set_cons_succ]
    refine wpAnyH_ready (rs:=[3,7]) (by kernel_rfl) (by simp) ?_
    refine AllReadyH.cons rfl (fun K hK=>?_) ?_
    · simp only [List.getElem_toArray,List.getElem_cons_succ,List.getElem_cons_zero]
      rw [if_pos (by rfl)]
      go_simp
      refine (C3.out _).mono ?_;rintro e v46 ⟨rfl,hb46⟩
      try simp only []
      refine hK.out _ _ ?_ (fun hH46=>?_)
      · exact ⟨(hH45.1).trans (hb46.mono (hH45.1).size),range_keep hH45.2.1 hb46,sz_keep hH45.2.2 hb46⟩
      clear hK K
      have TH136:=Lib.hid (there_keep TH134.out hb46)
      have sz137:=sz_keep sz135 hb46
      try simp only [Act.put,List.getElem_toArray,List.getElem_cons_succ,List.getElem_cons_zero,List.setIfInBounds_toArray,List.set_cons_zero,List.set_cons_succ]
      refine wpAnyH_take (i:=4) (v:=(.tuple #[.agg (sgL Q sg).toArray,.agg (sgL R false).toArray])) rfl (by kernel_rfl) (by kernel_rfl) (by kernel_rfl) (fun _ _ _ h=>h) (Or.inl ⟨by rfl,fun wz hz=>by skip;go_simp⟩) hH46 ?_
      try simp only [Act.put,List.getElem_toArray,List.getElem_cons_succ,List.getElem_cons_zero,List.setIfInBounds_toArray,List.set_cons_zero,List.set_cons_succ]
      refine wpAnyH_take (i:=5) (v:=(.agg (sgL Q sg).toArray)) rfl (by kernel_rfl) (by kernel_rfl) (by kernel_rfl) (fun _ _ _ h=>h) (Or.inl ⟨by rfl,fun wz hz=>by skip;go_simp⟩) hH46 ?_
      try simp only [Act.put,List.getElem_toArray,List.getElem_cons_succ,List.getElem_cons_zero,List.setIfInBounds_toArray,List.set_cons_zero,List.set_cons_succ]
      refine wpAnyH_take (i:=6) (v:=(.agg (sgL R false).toArray)) rfl (by kernel_rfl) (by kernel_rfl) (by kernel_rfl) (fun _ _ _ h=>h) (Or.inl ⟨by rfl,fun wz hz=>by skip;go_simp⟩) hH46 ?_
      try simp only [Act.put,List.getElem_toArray,List.getElem_cons_succ,List.getElem_cons_zero,List.setIfInBounds_toArray,List.set_cons_zero,List.set_cons_succ]
      refine wpAnyH_ready (rs:=[7]) (by kernel_rfl) (by simp) ?_
      refine AllReadyH.cons rfl (fun K hK=>?_) AllReadyH.nil
      simp only [List.getElem_toArray,List.getElem_cons_succ,List.getElem_cons_zero]
      rw [if_pos (by rfl)]
      with_reducible refine walb 88 _ (v46.heap.size) ?_ ?_ z88 ?_
      · rfl
      · first | rfl | simp [size_setCells]
      refine hK.out _ _ ?_ (fun hH47=>?_)
      · exact ⟨(hH46.1).alloc (hH46.1).size _,World.rangeAt_alloc hH46.2.1 _,sz_keep hH46.2.2 ((Below.refl _ _).alloc (Nat.le_refl _) _)⟩
      clear hK K
      have lo47 : w2.heap.size + 1 <= v46.heap.size:=by first | exact hH46.2.2 | (have:=hH46.2.2;simp [size_setCells] at this;omega)
      have TH138:=Lib.hid (World.there_alloc TH136.out (.cells (sgL 0 false).toArray 88))
      have sz139:=sz_keep sz137 ((Below.refl _ _).alloc (Nat.le_refl _) (.cells (sgL 0 false).toArray 88))
      have TH140:=Lib.hid (there_at (b:=v46.heap.size) (by first | rfl | simp [size_setCells]) _ 88 (by rw [sgL_len]) : World.there (v46.alloc (.cells (sgL 0 false).toArray 88)) (v46.heap.size) 0 31)
      have sz140 : v46.heap.size + 1 <= (v46.alloc (.cells (sgL 0 false).toArray 88)).heap.size:=by simp []
      try simp only [Act.put,List.setIfInBounds_toArray,List.set_cons_zero,List.set_cons_succ]
      refine wpAnyH_ready (rs:=[9]) (by kernel_rfl) (by simp) ?_
      refine AllReadyH.cons rfl (fun K hK=>?_) AllReadyH.nil
      simp only [List.getElem_toArray,List.getElem_cons_succ,List.getElem_cons_zero]
      rw [if_pos (by rfl)]
      with_reducible refine wst88 (v46.heap.size) 0 Q sg ?_ TH140.out ?_
      · exact ⟨_,_,rfl,rfl,rfl⟩
      refine hK.out _ _ ?_ (fun hH48=>?_)
      · exact ⟨below_set hH47.1 (by omega) _ _,range_setk hH47.2.1 (by first | trivial | omega),sz_setk hH47.2.2 (by first | trivial | omega)⟩
      clear hK K
      have TH141:=Lib.hid (World.there_setCells TH138.out (v46.heap.size) 0 (sgL Q sg))
      have sz142:=sz_setk (b:=(v46.heap.size)) (o:=0) (vs:=(sgL Q sg)) sz139 trivial
      have sz143:=sz_setk (b:=(v46.heap.size)) (o:=0) (vs:=(sgL Q sg)) sz140 trivial
      have RG144:=Lib.hid (range_set (o:=0) (cs:=sgL Q sg) TH140.out (by rw [sgL_len]))
      try simp only [Act.put]
      refine wpAnyH_ready (rs:=[10]) (by kernel_rfl) (by simp) ?_
      refine AllReadyH.cons rfl (fun K hK=>?_) AllReadyH.nil
      simp only [List.getElem_toArray,List.getElem_cons_succ,List.getElem_cons_zero]
      rw [if_pos (by rfl)]
      with_reducible refine wst88 (w3.heap.size) 0 R false ?_ TH141.out ?_
      · exact ⟨_,_,rfl,rfl,rfl⟩
      refine hK.out _ _ ?_ (fun hH49=>?_)
      · exact ⟨below_set hH48.1 (by omega) _ _,range_setk hH48.2.1 (by first | trivial | omega),sz_setk hH48.2.2 (by first | trivial | omega)⟩
      clear hK K
      have sz145:=sz_setk (b:=(w3.heap.size)) (o:=0) (vs:=(sgL R false)) sz142 trivial
      have sz146:=sz_setk (b:=(w3.heap.size)) (o:=0) (vs:=(sgL R false)) sz143 trivial
      have RG147:=Lib.hid (range_setk (b2:=(w3.heap.size)) (o2:=0) (vs:=(sgL R false)) RG144.out (by omega))
      have RG148:=Lib.hid (range_set (o:=0) (cs:=sgL R false) TH141.out (by rw [sgL_len]))
      try simp only [Act.put]
      refine wpAnyH_done (by kernel_rfl) ?_ _
      exact FIN (v46.heap.size) (w3.heap.size) _ hH49.1 RG147.out RG148.out
    refine AllReadyH.cons rfl (fun K hK=>?_) AllReadyH.nil
    simp only [List.getElem_toArray,List.getElem_cons_succ,List.getElem_cons_zero]
    rw [if_pos (by rfl)]
    with_reducible refine walb 88 _ (v45.heap.size) ?_ ?_ z88 ?_
    · rfl
    · first | rfl | simp [size_setCells]
    refine hK.out _ _ ?_ (fun hH50=>?_)
    · exact ⟨(hH45.1).alloc (hH45.1).size _,World.rangeAt_alloc hH45.2.1 _,sz_keep hH45.2.2 ((Below.refl _ _).alloc (Nat.le_refl _) _)⟩
    clear hK K
    have lo50 : w2.heap.size + 1 <= v45.heap.size:=by first | exact hH45.2.2 | (have:=hH45.2.2;simp [size_setCells] at this;omega)
    have TH149:=Lib.hid (World.there_alloc TH134.out (.cells (sgL 0 false).toArray 88))
    have sz150:=sz_keep sz135 ((Below.refl _ _).alloc (Nat.le_refl _) (.cells (sgL 0 false).toArray 88))
    have TH151:=Lib.hid (there_at (b:=v45.heap.size) (by first | rfl | simp [size_setCells]) _ 88 (by rw [sgL_len]) : World.there (v45.alloc (.cells (sgL 0 false).toArray 88)) (v45.heap.size) 0 31)
    have sz151 : v45.heap.size + 1 <= (v45.alloc (.cells (sgL 0 false).toArray 88)).heap.size:=by simp []
    try simp only [Act.put,List.setIfInBounds_toArray,List.set_cons_zero,List.set_cons_succ]
    refine wpAnyH_ready (rs:=[3]) (by kernel_rfl) (by simp) ?_
    refine AllReadyH.cons rfl (fun K hK=>?_) AllReadyH.nil
    simp only [List.getElem_toArray,List.getElem_cons_succ,List.getElem_cons_zero]
    rw [if_pos (by rfl)]
    go_simp
    refine (C3.out _).mono ?_;rintro e v51 ⟨rfl,hb51⟩
    try simp only []
    refine hK.out _ _ ?_ (fun hH51=>?_)
    · exact ⟨(hH50.1).trans (hb51.mono (hH50.1).size),range_keep hH50.2.1 hb51,sz_keep hH50.2.2 hb51⟩
    clear hK K
    have TH152:=Lib.hid (there_keep TH149.out hb51)
    have sz153:=sz_keep sz150 hb51
    have TH154:=Lib.hid (there_keep TH151.out hb51)
    have sz155:=sz_keep sz151 hb51
    try simp only [Act.put,List.getElem_toArray,List.getElem_cons_succ,List.getElem_cons_zero,List.setIfInBounds_toArray,List.set_cons_zero,List.set_cons_succ]
    refine wpAnyH_take (i:=4) (v:=(.tuple #[.agg (sgL Q sg).toArray,.agg (sgL R false).toArray])) rfl (by kernel_rfl) (by kernel_rfl) (by kernel_rfl) (fun _ _ _ h=>h) (Or.inl ⟨by rfl,fun wz hz=>by skip;go_simp⟩) hH51 ?_
    try simp only [Act.put,List.getElem_toArray,List.getElem_cons_succ,List.getElem_cons_zero,List.setIfInBounds_toArray,List.set_cons_zero,List.set_cons_succ]
    refine wpAnyH_take (i:=5) (v:=(.agg (sgL Q sg).toArray)) rfl (by kernel_rfl) (by kernel_rfl) (by kernel_rfl) (fun _ _ _ h=>h) (Or.inl ⟨by rfl,fun wz hz=>by skip;go_simp⟩) hH51 ?_
    try simp only [Act.put,List.getElem_toArray,List.getElem_cons_succ,List.getElem_cons_zero,List.setIfInBounds_toArray,List.set_cons_zero,List.set_cons_succ]
    refine wpAnyH_take (i:=6) (v:=(.agg (sgL R false).toArray)) rfl (by kernel_rfl) (by kernel_rfl) (by kernel_rfl) (fun _ _ _ h=>h) (Or.inl ⟨by rfl,fun wz hz=>by skip;go_simp⟩) hH51 ?_
    try simp only [Act.put,List.getElem_toArray,List.getElem_cons_succ,List.getElem_cons_zero,List.setIfInBounds_toArray,List.set_cons_zero,List.set_cons_succ]
    refine wpAnyH_ready (rs:=[9]) (by kernel_rfl) (by simp) ?_
    refine AllReadyH.cons rfl (fun K hK=>?_) AllReadyH.nil
    simp only [List.getElem_toArray,List.getElem_cons_succ,List.getElem_cons_zero]
    rw [if_pos (by rfl)]
    with_reducible refine wst88 (v45.heap.size) 0 Q sg ?_ TH154.out ?_
    · exact ⟨_,_,rfl,rfl,rfl⟩
    refine hK.out _ _ ?_ (fun hH52=>?_)
    · exact ⟨below_set hH51.1 (by omega) _ _,range_setk hH51.2.1 (by first | trivial | omega),sz_setk hH51.2.2 (by first | trivial | omega)⟩
    clear hK K
    have TH156:=Lib.hid (World.there_setCells TH152.out (v45.heap.size) 0 (sgL Q sg))
    have sz157:=sz_setk (b:=(v45.heap.size)) (o:=0) (vs:=(sgL Q sg)) sz153 trivial
    have sz158:=sz_setk (b:=(v45.heap.size)) (o:=0) (vs:=(sgL Q sg)) sz155 trivial
    have RG159:=Lib.hid (range_set (o:=0) (cs:=sgL Q sg) TH154.out (by rw [sgL_len]))
    try simp only [Act.put]
    refine wpAnyH_ready (rs:=[10]) (by kernel_rfl) (by simp) ?_
    refine AllReadyH.cons rfl (fun K hK=>?_) AllReadyH.nil
    simp only [List.getElem_toArray,List.getElem_cons_succ,List.getElem_cons_zero]
    rw [if_pos (by rfl)]
    with_reducible refine wst88 (w3.heap.size) 0 R false ?_ TH156.out ?_
    · exact ⟨_,_,rfl,rfl,rfl⟩
    refine hK.out _ _ ?_ (fun hH53=>?_)
    · exact ⟨below_set hH52.1 (by omega) _ _,range_setk hH52.2.1 (by first | trivial | omega),sz_setk hH52.2.2 (by first | trivial | omega)⟩
    clear hK K
    have sz160:=sz_setk (b:=(w3.heap.size)) (o:=0) (vs:=(sgL R false)) sz157 trivial
    have sz161:=sz_setk (b:=(w3.heap.size)) (o:=0) (vs:=(sgL R false)) sz158 trivial
    have RG162:=Lib.hid (range_setk (b2:=(w3.heap.size)) (o2:=0) (vs:=(sgL R false)) RG159.out (by omega))
    have RG163:=Lib.hid (range_set (o:=0) (cs:=sgL R false) TH156.out (by rw [sgL_len]))
    try simp only [Act.put]
    refine wpAnyH_done (by kernel_rfl) ?_ _
    exact FIN (v45.heap.size) (w3.heap.size) _ hH53.1 RG162.out RG163.out
  refine AllReadyH.cons rfl (fun K hK=>?_) AllReadyH.nil
  simp only [List.getElem_toArray,List.getElem_cons_succ,List.getElem_cons_zero]
  rw [if_pos (by rfl)]
  with_reducible refine walb 88 _ (w3.heap.size + 1) ?_ ?_ z88 ?_
  · rfl
  · first | rfl | simp []
  refine hK.out _ _ ?_ (fun hH54=>?_)
  · exact ⟨(hH44.1).alloc (hH44.1).size _,World.rangeAt_alloc hH44.2.1 _,sz_keep hH44.2.2 ((Below.refl _ _).alloc (Nat.le_refl _) _)⟩
  clear hK K
  have lo54 : w2.heap.size + 1 <= w3.heap.size + 1:=by first | exact hH44.2.2 | (have:=hH44.2.2;simp [] at this;omega)
  have TH164:=Lib.hid (World.there_alloc TH133.out (.cells (sgL 0 false).toArray 88))
  have sz165:=sz_keep sz133 ((Below.refl _ _).alloc (Nat.le_refl _) (.cells (sgL 0 false).toArray 88))
  have TH166:=Lib.hid (there_at (b:=w3.heap.size + 1) (by first | rfl | simp []) _ 88 (by rw [sgL_len]) : World.there ((w3.drew.alloc (.cells (sgL 0 false).toArray 88)).alloc (.cells (sgL 0 false).toArray 88)) (w3.heap.size + 1) 0 31)
  have sz166 : w3.heap.size + 1 + 1 <= ((w3.drew.alloc (.cells (sgL 0 false).toArray 88)).alloc (.cells (sgL 0 false).toArray 88)).heap.size:=by simp []
  try simp only [Act.put,List.setIfInBounds_toArray,List.set_cons_zero,List.set_cons_succ]
  refine wpAnyH_ready (rs:=[1]) (by kernel_rfl) (by simp) ?_
  refine AllReadyH.cons rfl (fun K hK=>?_) AllReadyH.nil
  simp only [List.getElem_toArray,List.getElem_cons_succ,List.getElem_cons_zero]
  rw [if_pos (by rfl)]
  go_simp
  refine (C1.out _ (HG.out.keep hH54.1)).mono ?_;rintro e v55 ⟨rfl,hb55⟩
  try simp only []
  refine hK.out _ _ ?_ (fun hH55=>?_)
  · exact ⟨(hH54.1).trans (hb55.mono (hH54.1).size),range_keep hH54.2.1 hb55,sz_keep hH54.2.2 hb55⟩
  clear hK K
  have TH167:=Lib.hid (there_keep TH164.out hb55)
  have sz168:=sz_keep sz165 hb55
  have TH169:=Lib.hid (there_keep TH166.out hb55)
  have sz170:=sz_keep sz166 hb55
  try simp only [Act.put,List.getElem_toArray,List.getElem_cons_succ,List.getElem_cons_zero,List.setIfInBounds_toArray,List.set_cons_zero,List.set_cons_succ]
  refine wpAnyH_ready (rs:=[3]) (by kernel_rfl) (by simp) ?_
  refine AllReadyH.cons rfl (fun K hK=>?_) AllReadyH.nil
  simp only [List.getElem_toArray,List.getElem_cons_succ,List.getElem_cons_zero]
  rw [if_pos (by rfl)]
  go_simp
  refine (C3.out _).mono ?_;rintro e v56 ⟨rfl,hb56⟩
  try simp only []
  refine hK.out _ _ ?_ (fun hH56=>?_)
  · exact ⟨(hH55.1).trans (hb56.mono (hH55.1).size),range_keep hH55.2.1 hb56,sz_keep hH55.2.2 hb56⟩
  clear hK K
  have TH171:=Lib.hid (there_keep TH167.out hb56)
  have sz172:=sz_keep sz168 hb56
  have TH173:=Lib.hid (there_keep TH169.out hb56)
  have sz174:=sz_keep sz170 hb56
  try simp only [Act.put,List.getElem_toArray,List.getElem_cons_succ,List.getElem_cons_zero,List.setIfInBounds_toArray,List.set_cons_zero,List.set_cons_succ]
  refine wpAnyH_take (i:=4) (v:=(.tuple #[.agg (sgL Q sg).toArray,.agg (sgL R false).toArray])) rfl (by kernel_rfl) (by kernel_rfl) (by kernel_rfl) (fun _ _ _ h=>h) (Or.inl ⟨by rfl,fun wz hz=>by skip;go_simp⟩) hH56 ?_
  try simp only [Act.put,List.getElem_toArray,List.getElem_cons_succ,List.getElem_cons_zero,List.setIfInBounds_toArray,List.set_cons_zero,List.set_cons_succ]
  refine wpAnyH_take (i:=5) (v:=(.agg (sgL Q sg).toArray)) rfl (by kernel_rfl) (by kernel_rfl) (by kernel_rfl) (fun _ _ _ h=>h) (Or.inl ⟨by rfl,fun wz hz=>by skip;go_simp⟩) hH56 ?_
  try simp only [Act.put,List.getElem_toArray,List.getElem_cons_succ,List.getElem_cons_zero,List.setIfInBounds_toArray,List.set_cons_zero,List.set_cons_succ]
  refine wpAnyH_take (i:=6) (v:=(.agg (sgL R false).toArray)) rfl (by kernel_rfl) (by kernel_rfl) (by kernel_rfl) (fun _ _ _ h=>h) (Or.inl ⟨by rfl,fun wz hz=>by skip;go_simp⟩) hH56 ?_
  try simp only [Act.put,List.getElem_toArray,List.getElem_cons_succ,List.getElem_cons_zero,List.setIfInBounds_toArray,List.set_cons_zero,List.set_cons_succ]
  refine wpAnyH_ready (rs:=[9]) (by kernel_rfl) (by simp) ?_
  refine AllReadyH.cons rfl (fun K hK=>?_) AllReadyH.nil
  simp only [List.getElem_toArray,List.getElem_cons_succ,List.getElem_cons_zero]
  rw [if_pos (by rfl)]
  with_reducible refine wst88 (w3.heap.size + 1) 0 Q sg ?_ TH173.out ?_
  · exact ⟨_,_,rfl,rfl,rfl⟩
  refine hK.out _ _ ?_ (fun hH57=>?_)
  · exact ⟨below_set hH56.1 (by omega) _ _,range_setk hH56.2.1 (by first | trivial | omega),sz_setk hH56.2.2 (by first | trivial | omega)⟩
  clear hK K
  have TH175:=Lib.hid (World.there_setCells TH171.out (w3.heap.size + 1) 0 (sgL Q sg))
  have sz176:=sz_setk (b:=(w3.heap.size + 1)) (o:=0) (vs:=(sgL Q sg)) sz172 trivial
  have sz177:=sz_setk (b:=(w3.heap.size + 1)) (o:=0) (vs:=(sgL Q sg)) sz174 trivial
  have RG178:=Lib.hid (range_set (o:=0) (cs:=sgL Q sg) TH173.out (by rw [sgL_len]))
  try simp only [Act.put]
  refine wpAnyH_ready (rs:=[10]) (by kernel_rfl) (by simp) ?_
  refine AllReadyH.cons rfl (fun K hK=>?_) AllReadyH.nil
  simp only [List.getElem_toArray,List.getElem_cons_succ,List.getElem_cons_zero]
  rw [if_pos (by rfl)]
  with_reducible refine wst88 (w3.heap.size) 0 R false ?_ TH175.out ?_
  · exact ⟨_,_,rfl,rfl,rfl⟩
  refine hK.out _ _ ?_ (fun hH58=>?_)
  · exact ⟨below_set hH57.1 (by omega) _ _,range_setk hH57.2.1 (by first | trivial | omega),sz_setk hH57.2.2 (by first | trivial | omega)⟩
  clear hK K
  have sz179:=sz_setk (b:=(w3.heap.size)) (o:=0) (vs:=(sgL R false)) sz176 trivial
  have sz180:=sz_setk (b:=(w3.heap.size)) (o:=0) (vs:=(sgL R false)) sz177 trivial
  have RG181:=Lib.hid (range_setk (b2:=(w3.heap.size)) (o2:=0) (vs:=(sgL R false)) RG178.out (by omega))
  have RG182:=Lib.hid (range_set (o:=0) (cs:=sgL R false) TH175.out (by rw [sgL_len]))
  try simp only [Act.put]
  refine wpAnyH_done (by kernel_rfl) ?_ _
  exact FIN (w3.heap.size + 1) (w3.heap.size) _ hH58.1 RG181.out RG182.out
end Go.Proofs.YtpbegoflpfdajaaGreatDoor

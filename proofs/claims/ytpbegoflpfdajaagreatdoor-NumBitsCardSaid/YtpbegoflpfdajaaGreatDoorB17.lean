/- WHAT IS PROVED: contracts of functions of the numbers package and laws for them, used by the last text of this claim. CONDITIONS: stated at each theorem. -/
import Derived.Test.YtpbegoflpfdajaaGreatDoorB16
import Derived.LoopTactic
namespace Go.Proofs.YtpbegoflpfdajaaGreatDoor
section
open Go.RowKit
open Go.Lib (decDigits nDigits decDigits_length)
theorem intM_small (l : List UInt8) (h : ckL l = 0) : intM l < bb ^ 14:=by
  obtain ⟨h1,_,h3⟩:=ck_dig l h
  have:=valL_lt (noMinus l) (fun c hc=>by
    obtain ⟨i,hi,rfl⟩:=List.getElem_of_mem hc
    simp only [isDig,decide_eq_true_eq]
    exact h1.2 i hi)
  have key : ∀ c,(noMinus l).length <= 9 * c->10 ^ (noMinus l).length <= bb ^ c:=fun c h=>by rw [bb_ten,<- Nat.pow_mul];exact Nat.pow_le_pow_right (by omega) h
  exact Nat.lt_of_lt_of_le this (key 14 (by omega))
theorem sum_lt {a b : Nat} (ha : a < bb ^ 14) (hb : b < bb ^ 14) : a + b < bb ^ 30:=by
  have h1 : bb ^ 14 * 2 <= bb ^ 30:=by
    obtain ⟨c,hc⟩ : ∃ c,c = 14:=⟨_,rfl⟩
    have : ∀ c,bb ^ c * 2 <= bb ^ (c + 16):=fun c=>by
      rw [Nat.pow_add];exact Nat.mul_le_mul_left _ (by
        have:=pow_mono (show 1 <= 16 by omega)
        unfold bb at this ⊢
        omega)
    exact this 14
  omega
theorem mul_lt {a b : Nat} (ha : a < bb ^ 14) (hb : b < bb ^ 14) : a * b < bb ^ 30:=by
  have h1 : a * b < bb ^ 14 * bb ^ 14:=Nat.mul_lt_mul'' ha hb
  rw [<- Nat.pow_add] at h1
  exact Nat.lt_of_lt_of_le h1 (pow_mono (by omega))
theorem big_of {a : Nat} (ha : a < bb ^ 14) : a < bb ^ 30:=Nat.lt_of_lt_of_le ha (pow_mono (by omega))
theorem addR_lt {a b : Nat} {s t : Bool} (ha : a < bb ^ 14) (hb : b < bb ^ 14) : (addR a s b t).1 < bb ^ 30:=by
  have:=sum_lt ha hb
  unfold addR
  split
  · exact this
  · split
    · simp only;omega
    · simp only;omega
theorem plusS_any (a : Nat) (s : Bool) (b : Nat) (t : Bool) (ha : a < bb ^ 14) (hb : b < bb ^ 14) (w : World) :
    Calls Tryz.prog 78 #[.agg (sgL a s).toArray,.agg (sgL b t).toArray] w fun e w'=>e = .returned (.agg (sgL (addR a s b t).1 (addR a s b t).2).toArray)/\Below w.heap.size w w':=by
  by_cases hs : s = t
  · rw [show addR a s b t = (a + b,s && !decide (a + b = 0)) by unfold addR;rw [if_pos hs]]
    exact plusS_same a b s t hs (sum_lt ha hb) w
  · by_cases h : b <= a
    · rw [show addR a s b t = (max a b - min a b,s && !decide (max a b - min a b = 0)) by unfold addR;rw [if_neg hs,if_pos h]]
      exact plusS_ge a b s t hs h (big_of ha) (big_of hb) w
    · rw [show addR a s b t = (max b a - min b a,t && !decide (max b a - min b a = 0)) by unfold addR;rw [if_neg hs,if_neg h]]
      have:=plusS_lt a b s t hs (by omega) (big_of ha) (big_of hb) w
      rwa [Nat.max_comm,Nat.min_comm] at this
theorem plus_enter (args : Array Value) (w : World) : (callFunc 78 args).run Tryz.prog w = .ok (.enter 78 args) w:=enters_of Tryz.func78 (by kernel_rfl) rfl _ _
theorem times_enter (args : Array Value) (w : World) : (callFunc 83 args).run Tryz.prog w = .ok (.enter 83 args) w:=enters_of Tryz.func83 (by kernel_rfl) rfl _ _
theorem add_ok (s1 s2 : ByteArray) (h1 : ckL s1.data.toList = 0) (h2 : ckL s2.data.toList = 0) (w : World) (hg : Gl w) :
    Calls Tryz.prog 21 #[.string s1,.string s2] w fun e w'=>e = .returned (resT ((addR (intM s1.data.toList) (intS s1.data.toList) (intM s2.data.toList) (intS s2.data.toList)).1) ((addR (intM s1.data.toList) (intS s1.data.toList) (intM s2.data.toList) (intS s2.data.toList)).2))/\Below w.heap.size w w':=by
  have c:=integers_ok 78 plus_enter s1 s2 h1 h2 ((addR (intM s1.data.toList) (intS s1.data.toList) (intM s2.data.toList) (intS s2.data.toList)).1) ((addR (intM s1.data.toList) (intS s1.data.toList) (intM s2.data.toList) (intS s2.data.toList)).2) (addR_lt (intM_small _ h1) (intM_small _ h2)) (fun w _=>plusS_any _ _ _ _ (intM_small _ h1) (intM_small _ h2) w) w hg
  unfold resT
  obtain ⟨T,hT⟩ : ∃ T : ByteArray,(if digN ((addR (intM s1.data.toList) (intS s1.data.toList) (intM s2.data.toList) (intS s2.data.toList)).1) <= 120 then (⟨(sgText ((addR (intM s1.data.toList) (intS s1.data.toList) (intM s2.data.toList) (intS s2.data.toList)).1) ((addR (intM s1.data.toList) (intS s1.data.toList) (intM s2.data.toList) (intS s2.data.toList)).2)).toArray⟩ : ByteArray) else ⟨#[]⟩) = T:=⟨_,rfl⟩
  obtain ⟨E,hE⟩ : ∃ E,fitsV ((addR (intM s1.data.toList) (intS s1.data.toList) (intM s2.data.toList) (intS s2.data.toList)).1) = E:=⟨_,rfl⟩
  rw [hT,hE] at c ⊢
  have C:=Lib.hid c;clear c hT hE h1 h2 hg
  go_enter Tryz.func21,Tryz.ntmps21
  go_wp2_with (go_at_call 77;(with_reducible refine (C.out).mono ?_);rintro e w1 ⟨rfl,hb1⟩)
  go_ret2
  exact ⟨rfl,hb1⟩
theorem mul_ok (s1 s2 : ByteArray) (h1 : ckL s1.data.toList = 0) (h2 : ckL s2.data.toList = 0) (w : World) (hg : Gl w) :
    Calls Tryz.prog 25 #[.string s1,.string s2] w fun e w'=>e = .returned (resT (intM s1.data.toList * intM s2.data.toList) ((intS s1.data.toList != intS s2.data.toList) && !decide (intM s1.data.toList * intM s2.data.toList = 0)))/\Below w.heap.size w w':=by
  have c:=integers_ok 83 times_enter s1 s2 h1 h2 (intM s1.data.toList * intM s2.data.toList) ((intS s1.data.toList != intS s2.data.toList) && !decide (intM s1.data.toList * intM s2.data.toList = 0)) (mul_lt (intM_small _ h1) (intM_small _ h2)) (fun w _=>timesS_any _ _ _ _ (intM_lt _ h1) (intM_lt _ h2) (mul_lt (intM_small _ h1) (intM_small _ h2)) w) w hg
  unfold resT
  obtain ⟨T,hT⟩ : ∃ T : ByteArray,(if digN (intM s1.data.toList * intM s2.data.toList) <= 120 then (⟨(sgText (intM s1.data.toList * intM s2.data.toList) ((intS s1.data.toList != intS s2.data.toList) && !decide (intM s1.data.toList * intM s2.data.toList = 0))).toArray⟩ : ByteArray) else ⟨#[]⟩) = T:=⟨_,rfl⟩
  obtain ⟨E,hE⟩ : ∃ E,fitsV (intM s1.data.toList * intM s2.data.toList) = E:=⟨_,rfl⟩
  rw [hT,hE] at c ⊢
  have C:=Lib.hid c;clear c hT hE h1 h2 hg
  go_enter Tryz.func25,Tryz.ntmps25
  go_wp2_with (go_at_call 77;(with_reducible refine (C.out).mono ?_);rintro e w1 ⟨rfl,hb1⟩)
  go_ret2
  exact ⟨rfl,hb1⟩
set_option maxHeartbeats 1000000 in
theorem neg_ok (s : ByteArray) (h : ckL s.data.toList = 0) (w : World) (hg : Gl w) :
    Calls Tryz.prog 18 #[.string s] w fun e w'=>e = .returned (resT (intM s.data.toList) (!intS s.data.toList && !decide (intM s.data.toList = 0)))/\Below w.heap.size w w':=by
  have cc:=check_any s w
  rw [h] at cc
  have Cc:=Lib.hid cc
  have HG:=Lib.hid hg
  have Cp:=Lib.hid (fun w g=>parse_ck s h w g)
  have Cn:=Lib.hid (fun w=>negated_any (intM s.data.toList) (intS s.data.toList) (intM_lt _ h) w)
  have cr:=fun w g=>result_any (intM s.data.toList) (!intS s.data.toList && !decide (intM s.data.toList = 0)) (intM_lt _ h) w g
  unfold resT
  obtain ⟨T,hT⟩ : ∃ T : ByteArray,(if digN (intM s.data.toList) <= 120 then (⟨(sgText (intM s.data.toList) (!intS s.data.toList && !decide (intM s.data.toList = 0))).toArray⟩ : ByteArray) else ⟨#[]⟩) = T:=⟨_,rfl⟩
  obtain ⟨E,hE⟩ : ∃ E,fitsV (intM s.data.toList) = E:=⟨_,rfl⟩
  rw [hT,hE] at cr ⊢
  have Cr:=Lib.hid cr
  clear cc hg h cr hT hE
  go_enter Tryz.func18,Tryz.ntmps18
  go_wp2_with (first
    | (go_at_call 12;(with_reducible refine (Cc.out).mono ?_);rintro e w1 ⟨rfl,hb1⟩;have HB1:=Lib.hid hb1;have HG2:=Lib.hid (HG.out.keep hb1);clear hb1)
    | (go_at_call 72;(with_reducible refine (Cp.out _ HG2.out).mono ?_);rintro e w2 ⟨rfl,hb2⟩;have HB2:=Lib.hid (HB1.out.trans (hb2.mono HB1.out.size));have HG3:=Lib.hid (HG2.out.keep hb2);clear hb2)
    | (go_at_call 73;(with_reducible refine (Cn.out _).mono ?_);rintro e w3 ⟨rfl,hb3⟩;have HB3:=Lib.hid (HB2.out.trans (hb3.mono HB2.out.size));have HG4:=Lib.hid (HG3.out.keep hb3);clear hb3)
    | (go_at_call 74;(with_reducible refine (Cr.out _ HG4.out).mono ?_);rintro e w4 ⟨rfl,hb4⟩;have HB4:=Lib.hid (HB3.out.trans (hb4.mono HB3.out.size));clear hb4))
  go_ret2
  exact ⟨rfl,HB4.out⟩
end
section
open Go.RowKit
open Go.Lib (decDigits nDigits decDigits_length)
def subR (a : Nat) (s : Bool) (b : Nat) (t : Bool) : Nat × Bool:=addR a s b (!t && !decide (b = 0))
set_option maxHeartbeats 2000000 in
theorem subF_any (n1 : Nat) (s1 : Bool) (n2 : Nat) (s2 : Bool) (h1 : n1 < bb ^ 14) (h2 : n2 < bb ^ 14) (w : World) :
    Calls Tryz.prog 81 #[.agg (sgL n1 s1).toArray,.agg (sgL n2 s2).toArray] w fun e w'=>e = .returned (.agg (sgL (subR n1 s1 n2 s2).1 (subR n1 s1 n2 s2).2).toArray)/\Below w.heap.size w w':=by
  have Cn:=Lib.hid (fun w=>negated_any n2 s2 (big_of h2) w)
  have cp:=fun w=>plusS_any n1 s1 n2 (!s2 && !decide (n2 = 0)) h1 h2 w
  unfold subR
  obtain ⟨r,hr⟩ : ∃ r,(addR n1 s1 n2 (!s2 && !decide (n2 = 0))).1 = r:=⟨_,rfl⟩
  obtain ⟨t,ht⟩ : ∃ t,(addR n1 s1 n2 (!s2 && !decide (n2 = 0))).2 = t:=⟨_,rfl⟩
  rw [hr,ht] at cp ⊢
  have Cp:=Lib.hid cp
  clear cp hr ht h1 h2
  have Hb:=Lib.hid (show Below w.heap.size w (((w.alloc (.cells (sgL n1 s1).toArray 88)).alloc (.cells (sgL n2 s2).toArray 88)).alloc (.cells (sgL 0 false).toArray 88)) from (((Below.refl w.heap.size w).alloc (Nat.le_refl _) _).alloc (by simp) _).alloc (by simp;omega) _)
  have Hr1:=Lib.hid (show (((w.alloc (.cells (sgL n1 s1).toArray 88)).alloc (.cells (sgL n2 s2).toArray 88)).alloc (.cells (sgL 0 false).toArray 88)).rangeAt w.heap.size 0 (sgL n1 s1) from World.rangeAt_alloc (World.rangeAt_alloc (range_new w _ 88) _) _)
  have Hr2:=Lib.hid (show (((w.alloc (.cells (sgL n1 s1).toArray 88)).alloc (.cells (sgL n2 s2).toArray 88)).alloc (.cells (sgL 0 false).toArray 88)).rangeAt (w.heap.size + 1) 0 (sgL n2 s2) from World.rangeAt_alloc (range_at (by simp) _ 88) _)
  have Ht:=Lib.hid (show (((w.alloc (.cells (sgL n1 s1).toArray 88)).alloc (.cells (sgL n2 s2).toArray 88)).alloc (.cells (sgL 0 false).toArray 88)).there (w.heap.size + 2) 0 31 from there_at (by simp) _ 88 (by rw [sgL_len]))
  go_enter Tryz.func81,Tryz.ntmps81
  go_wp2_with (first
    | ((with_reducible refine al_zb 88 _ (w.heap.size + 2) ?_ ?_ z88 ?_);(· exact ⟨rfl,rfl⟩);· (simp;done)))
  refine wp_region_held_drew (S:=(fun w'=>Below w.heap.size w w'/\w'.rangeAt w.heap.size 0 (sgL n1 s1)/\w'.rangeAt (w.heap.size + 1) 0 (sgL n2 s2)/\w'.there (w.heap.size + 2) 0 31)) (by kernel_rfl) ?_ (fun hH=>?_)
  · exact ⟨Hb.out.drew,Hr1.out,Hr2.out,Ht.out⟩
  try dsimp only at hH
  refine wpAnyH_take (i:=0) (v:=(.agg (sgL n1 s1).toArray)) rfl (by kernel_rfl) (by kernel_rfl) (by kernel_rfl) (fun _ _ _ h=>h) (yld88 w.heap.size 0 n1 s1 rfl ⟨_,rfl,rfl⟩ (fun wz hz=>hz.2.1)) hH ?_
  try simp only [Act.put,List.getElem_toArray,List.getElem_cons_zero,List.setIfInBounds_toArray,List.set_cons_zero,List.set_cons_succ]
  refine wpAnyH_take (i:=1) (v:=(.agg (sgL n2 s2).toArray)) rfl (by kernel_rfl) (by kernel_rfl) (by kernel_rfl) (fun _ _ _ h=>h) (yld88 (w.heap.size + 1) 0 n2 s2 rfl ⟨_,rfl,rfl⟩ (fun wz hz=>hz.2.2.1)) hH ?_
  try simp only [Act.put,List.getElem_toArray,List.getElem_cons_succ,List.getElem_cons_zero,List.setIfInBounds_toArray,List.set_cons_zero,List.set_cons_succ]
  refine wpAnyH_ready (rs:=[2]) (by kernel_rfl) (by simp) ?_
  refine AllReadyH.cons rfl (fun K hK=>?_) AllReadyH.nil
  simp only [List.getElem_toArray,List.getElem_cons_succ,List.getElem_cons_zero]
  rw [if_pos (by rfl)]
  go_simp
  refine (Cn.out _).mono ?_;rintro e w1 ⟨rfl,hb1⟩
  try simp only []
  refine hK.out _ _ ?_ (fun hH1=>?_)
  · exact ⟨(hH.1).trans (hb1.mono (hH.1).size),range_keep hH.2.1 hb1,range_keep hH.2.2.1 hb1,there_keep hH.2.2.2 hb1⟩
  clear hK K
  try simp only [Act.put,List.getElem_toArray,List.getElem_cons_succ,List.getElem_cons_zero,List.setIfInBounds_toArray,List.set_cons_zero,List.set_cons_succ]
  refine wpAnyH_ready (rs:=[3]) (by kernel_rfl) (by simp) ?_
  refine AllReadyH.cons rfl (fun K hK=>?_) AllReadyH.nil
  simp only [List.getElem_toArray,List.getElem_cons_succ,List.getElem_cons_zero]
  rw [if_pos (by rfl)]
  go_simp
  refine (Cp.out _).mono ?_;rintro e w2 ⟨rfl,hb2⟩
  try simp only []
  refine hK.out _ _ ?_ (fun hH2=>?_)
  · exact ⟨(hH1.1).trans (hb2.mono (hH1.1).size),range_keep hH1.2.1 hb2,range_keep hH1.2.2.1 hb2,there_keep hH1.2.2.2 hb2⟩
  clear hK K
  try simp only [Act.put,List.getElem_toArray,List.getElem_cons_succ,List.getElem_cons_zero,List.setIfInBounds_toArray,List.set_cons_zero,List.set_cons_succ]
  refine wpAnyH_ready (rs:=[4]) (by kernel_rfl) (by simp) ?_
  refine AllReadyH.cons rfl (fun K hK=>?_) AllReadyH.nil
  simp only [List.getElem_toArray,List.getElem_cons_succ,List.getElem_cons_zero]
  rw [if_pos (by rfl)]
  with_reducible refine wst88 (w.heap.size + 2) 0 r t ?_ hH2.2.2.2 ?_
  · exact ⟨_,_,rfl,rfl,rfl⟩
  refine hK.out _ _ ?_ (fun hH3=>?_)
  · exact ⟨below_set hH2.1 (by omega) _ _,range_setk hH2.2.1 (by first | trivial | omega),range_setk hH2.2.2.1 (by first | trivial | omega),there_setk hH2.2.2.2 (by first | trivial | omega)⟩
  clear hK K
  try simp only [Act.put]
  refine wpAnyH_done (by kernel_rfl) ?_ _
  go_wp2
  exact ret88 Tryz.results81 (w.heap.size + 2) 0 rfl r t (range_set hH2.2.2.2 (by rw [sgL_len])) rfl ⟨rfl,hH3.1⟩
theorem sub_enter (args : Array Value) (w : World) : (callFunc 81 args).run Tryz.prog w = .ok (.enter 81 args) w:=enters_of Tryz.func81 (by kernel_rfl) rfl _ _
theorem sub_ok (s1 s2 : ByteArray) (h1 : ckL s1.data.toList = 0) (h2 : ckL s2.data.toList = 0) (w : World) (hg : Gl w) :
    Calls Tryz.prog 23 #[.string s1,.string s2] w fun e w'=>e = .returned (resT ((subR (intM s1.data.toList) (intS s1.data.toList) (intM s2.data.toList) (intS s2.data.toList)).1) ((subR (intM s1.data.toList) (intS s1.data.toList) (intM s2.data.toList) (intS s2.data.toList)).2))/\Below w.heap.size w w':=by
  have c:=integers_ok 81 sub_enter s1 s2 h1 h2 ((subR (intM s1.data.toList) (intS s1.data.toList) (intM s2.data.toList) (intS s2.data.toList)).1) ((subR (intM s1.data.toList) (intS s1.data.toList) (intM s2.data.toList) (intS s2.data.toList)).2) (addR_lt (intM_small _ h1) (intM_small _ h2)) (fun w _=>subF_any _ _ _ _ (intM_small _ h1) (intM_small _ h2) w) w hg
  unfold resT
  obtain ⟨T,hT⟩ : ∃ T : ByteArray,(if digN ((subR (intM s1.data.toList) (intS s1.data.toList) (intM s2.data.toList) (intS s2.data.toList)).1) <= 120 then (⟨(sgText ((subR (intM s1.data.toList) (intS s1.data.toList) (intM s2.data.toList) (intS s2.data.toList)).1) ((subR (intM s1.data.toList) (intS s1.data.toList) (intM s2.data.toList) (intS s2.data.toList)).2)).toArray⟩ : ByteArray) else ⟨#[]⟩) = T:=⟨_,rfl⟩
  obtain ⟨E,hE⟩ : ∃ E,fitsV ((subR (intM s1.data.toList) (intS s1.data.toList) (intM s2.data.toList) (intS s2.data.toList)).1) = E:=⟨_,rfl⟩
  rw [hT,hE] at c ⊢
  have C:=Lib.hid c;clear c hT hE h1 h2 hg
  go_enter Tryz.func23,Tryz.ntmps23
  go_wp2_with (go_at_call 77;(with_reducible refine (C.out).mono ?_);rintro e w1 ⟨rfl,hb1⟩)
  go_ret2
  exact ⟨rfl,hb1⟩
end
section
open Go.RowKit
open Go.Lib (decDigits nDigits decDigits_length)
theorem below_bw' {w w' : World} (h : w' = w ∨ ∃ t,w' = Lib.bytesWorld w 5 t) : Below w.heap.size w w':=by
  rcases h with rfl | ⟨t,rfl⟩
  · exact Below.refl _ _
  · exact Lib.bytesWorld_below _ _ _
theorem fromInt_any (n : Int) (h0 : -9223372036854775808 <= n) (h1 : n <= 9223372036854775807) (w : World) (hg : Gl w) :
    Calls Tryz.prog 14 #[.int .i64 n] w fun e w'=>e = .returned (.string ⟨(Lib.itoa n).toArray⟩)/\Below w.heap.size w w':=by
  have C:=Lib.hid (Tryz.strconv_Itoa n h0 h1 w hg.tab)
  clear h0 h1 hg
  go_enter Tryz.func14,Tryz.ntmps14
  go_wp2_with (go_at_call 66;(with_reducible refine (C.out).mono ?_);rintro e w1 ⟨rfl,k,os,rfl⟩)
  go_ret
  exact ⟨rfl,Lib.below_grow _ _ (Nat.le_refl _) k os⟩
set_option maxHeartbeats 1000000 in
theorem toInt_ok (s : ByteArray) (h : ckL s.data.toList = 0) (v : Int) (hv : Lib.atoiAll s.data.toList = .ok v) (w : World) :
    Calls Tryz.prog 16 #[.string s] w fun e w'=>e = .returned (.tuple #[.int .i64 v,.int .i64 0])/\Below w.heap.size w w':=by
  have cc:=check_any s w
  rw [h] at cc
  have Cc:=Lib.hid cc
  have hsz:=ckL_short _ h
  have hs1 : s.size <= 121:=by simpa using hsz
  have hs2 : s.size <= 9223372036854775806:=by omega
  have Ca:=Lib.hid (fun w=>Tryz.strconv_Atoi_ok s hs2 v hv w)
  clear cc h hsz hs1 hs2 hv
  go_enter Tryz.func16,Tryz.ntmps16
  go_wp2_with (first
    | (go_at_call 12;(with_reducible refine (Cc.out).mono ?_);rintro e w1 ⟨rfl,hb1⟩;have HB1:=Lib.hid hb1;clear hb1)
    | (go_at_call 69;(with_reducible refine (Ca.out _).mono ?_);rintro e w2 ⟨rfl,hw2⟩;have HB2:=Lib.hid (below_bw' hw2);clear hw2))
  go_ret2
  exact ⟨rfl,HB1.out.trans (HB2.out.mono HB1.out.size)⟩
set_option maxHeartbeats 1000000 in
theorem compare_ok (s1 s2 : ByteArray) (h1 : ckL s1.data.toList = 0) (h2 : ckL s2.data.toList = 0) (w : World) (hg : Gl w) :
    Calls Tryz.prog 29 #[.string s1,.string s2] w fun e w'=>e = .returned (.tuple #[.int .i64 (cmpS (intM s1.data.toList) (intS s1.data.toList) (intM s2.data.toList) (intS s2.data.toList)),.int .i64 0])/\Below w.heap.size w w':=by
  obtain ⟨a0,a1,a2,a3⟩:=two_new (w:=w) (.string s1) (.string s2) 9
  have HG1:=Lib.hid (hg.keep a3)
  have cf:=firstOf_ints s1 s2 w.heap.size _ a0 a1 a2
  rw [h1,h2,show firstE [0,0] = 0 from rfl] at cf
  have Cf:=Lib.hid cf
  have Cp1:=Lib.hid (fun w h=>parse_ck s1 h1 w h)
  have Cp2:=Lib.hid (fun w h=>parse_ck s2 h2 w h)
  have CF:=Lib.hid (fun w=>compareS_any (intM s1.data.toList) (intM s2.data.toList) (intS s1.data.toList) (intS s2.data.toList) (intM_lt _ h1) (intM_lt _ h2) w)
  have HB0:=Lib.hid a3
  obtain ⟨V1,hV1⟩ : ∃ V,(sgL (intM s1.data.toList) (intS s1.data.toList)).toArray = V:=⟨_,rfl⟩
  obtain ⟨V2,hV2⟩ : ∃ V,(sgL (intM s2.data.toList) (intS s2.data.toList)).toArray = V:=⟨_,rfl⟩
  obtain ⟨x,hx⟩ : ∃ x,cmpS (intM s1.data.toList) (intS s1.data.toList) (intM s2.data.toList) (intS s2.data.toList) = x:=⟨_,rfl⟩
  rw [hV1] at Cp1 CF
  rw [hV2] at Cp2 CF
  rw [hx] at CF ⊢
  clear cf h1 h2 a0 a1 a2 a3 hg hV1 hV2 hx
  go_enter Tryz.func29,Tryz.ntmps29
  go_wp2_with (first
    | (go_at_call 85;(with_reducible refine (Cf.out).mono ?_);rintro e w1 ⟨rfl,hb1⟩;have HB1:=Lib.hid (HB0.out.trans (hb1.mono HB0.out.size));have HG2:=Lib.hid (HG1.out.keep hb1);clear hb1)
    | (go_at_call 72;(with_reducible refine (Cp1.out _ HG2.out).mono ?_);rintro e w2 ⟨rfl,hb2⟩;have HB2:=Lib.hid (HB1.out.trans (hb2.mono HB1.out.size));have HG3:=Lib.hid (HG2.out.keep hb2);clear hb2 HG2)
    | (go_at_call 72;(with_reducible refine (Cp2.out _ HG3.out).mono ?_);rintro e w3 ⟨rfl,hb3⟩;have HB3:=Lib.hid (HB2.out.trans (hb3.mono HB2.out.size));clear hb3 HG3)
    | (go_at_call 92;(with_reducible refine (CF.out _).mono ?_);rintro e w4 ⟨rfl,hb4⟩;have HB4:=Lib.hid (HB3.out.trans (hb4.mono HB3.out.size));clear hb4))
  go_ret2
  exact ⟨rfl,HB4.out⟩
set_option maxHeartbeats 1000000 in
theorem wrap_ok (s : ByteArray) (h : ckL s.data.toList = 0) (k : Nat) (hk1 : 1 <= k) (hk : k <= 64) (w : World) (hg : Gl w) :
    Calls Tryz.prog 55 #[.string s,.int .i64 k] w fun e w'=>e = .returned (.tuple #[.string ⟨(decDigits (wrapV (intM s.data.toList) (intS s.data.toList) % 2 ^ k)).toArray⟩,.int .i64 0])/\Below w.heap.size w w':=by
  have cc:=check_any s w
  rw [h] at cc
  have Cc:=Lib.hid cc
  have cw:=fun w=>checkWidth_any (k : Int) w
  rw [ckWidth_ok k hk1 hk] at cw
  have Cw:=Lib.hid cw
  have HG:=Lib.hid hg
  have Cp:=Lib.hid (fun w g=>parse_ck s h w g)
  have cv:=fun w=>wrapped_any (intM s.data.toList) (intS s.data.toList) (intM_lt _ h) w
  have hv64 : wrapV (intM s.data.toList) (intS s.data.toList) < 18446744073709551616:=by unfold wrapV;split <;> omega
  obtain ⟨v,hv⟩ : ∃ v,wrapV (intM s.data.toList) (intS s.data.toList) = v:=⟨_,rfl⟩
  obtain ⟨V,hV⟩ : ∃ V,(sgL (intM s.data.toList) (intS s.data.toList)).toArray = V:=⟨_,rfl⟩
  rw [hv] at cv hv64 ⊢
  rw [hV] at cv Cp
  have Cv:=Lib.hid cv
  have hand:=and_mask v k hv64 hk
  have hr64 : v % 2 ^ k < 18446744073709551616:=Nat.lt_of_le_of_lt (Nat.mod_le _ _) hv64
  obtain ⟨r,hr⟩ : ∃ r,v % 2 ^ k = r:=⟨_,rfl⟩
  rw [hr] at hand hr64 ⊢
  have cm:=fun w=>mask_any k hk w
  obtain ⟨m,hm0⟩ : ∃ m,2 ^ k - 1 = m:=⟨_,rfl⟩
  rw [hm0] at hand cm
  have Cm:=Lib.hid cm
  have Cf:=Lib.hid (fun w h=>formatUint_any r hr64 w h)
  have C8:=Lib.hid (fun (W : World)=>firstError_any W.heap.size 2 2 [0,0] rfl (by omega) (W.alloc (.cells #[.int .i64 0,.int .i64 0] 24)) (fun i hi=>by
    have t:=two_new (w:=W) (.int .i64 0) (.int .i64 0) 24
    match i,hi with
    | 0,_=>exact t.2.1
    | 1,_=>exact t.2.2.1))
  clear cc cw cv cm hg h hv hV hr hm0
  go_enter Tryz.func55,Tryz.ntmps55
  go_wp2_with (first
    | (go_at_call 12;(with_reducible refine (Cc.out).mono ?_);rintro e w1 ⟨rfl,hb1⟩;have HB1:=Lib.hid hb1;have HG1:=Lib.hid (HG.out.keep hb1);have HB2:=Lib.hid (hb1.alloc hb1.size (.cells #[.int .i64 0,.int .i64 0] 24));have HG2:=Lib.hid (HG.out.keep HB2.out);clear hb1)
    | (go_at_call 123;(with_reducible refine (Cw.out _).mono ?_);rintro e w2 ⟨rfl,rfl⟩)
    | (go_at_call 88;(with_reducible refine (C8.out _).mono ?_);rintro e w3 ⟨rfl,rfl⟩)
    | (go_at_call 72;(with_reducible refine (Cp.out _ HG2.out).mono ?_);rintro e w4 ⟨rfl,hb4⟩;have HB4:=Lib.hid (HB2.out.trans (hb4.mono HB2.out.size));clear hb4)
    | (go_at_call 124;(with_reducible refine (Cv.out _).mono ?_);rintro e w5 ⟨rfl,hb5⟩;have HB5:=Lib.hid (HB4.out.trans (hb5.mono HB4.out.size));clear hb5)
    | (go_at_call 125;(with_reducible refine (Cm.out _).mono ?_);rintro e w6 ⟨rfl,rfl⟩)
    | (go_at_call 59;(with_reducible refine (Cf.out _ (HG.out.keep HB5.out)).mono ?_);rintro e w7 ⟨rfl,hb7⟩;have HB7:=Lib.hid (HB5.out.trans (hb7.mono HB5.out.size));clear hb7))
  go_ret2
  exact ⟨rfl,HB7.out⟩
end
section
open Go.RowKit
open Go.Lib (decDigits nDigits decDigits_length)
theorem small_one (w : World) : Calls Tryz.prog 94 #[.int .u32 1] w fun e w'=>e = .returned (.agg (mgL 1).toArray)/\Below w.heap.size w w':=small_any 1 (by unfold bb;omega) w
theorem number_one (w : World) : Calls Tryz.prog 93 #[.agg (mgL 1).toArray,.bool false] w fun e w'=>e = .returned (.agg (sgL 1 false).toArray)/\Below w.heap.size w w':=by
  have:=number_any 1 false (Nat.lt_of_lt_of_le (show 1 < bb ^ 1 by unfold bb;omega) (pow_mono (by omega))) w
  exact this
theorem pw_there0 (w : World) : ((w.alloc (.cells (sgL 0 false).toArray 88)).alloc (.cells (sgL 0 false).toArray 88)).there w.heap.size 0 31:=World.there_alloc (there_at rfl _ 88 (by rw [sgL_len])) _
theorem pw_there1 (w : World) : ((w.alloc (.cells (sgL 0 false).toArray 88)).alloc (.cells (sgL 0 false).toArray 88)).there (w.heap.size + 1) 0 31:=there_at (by simp) _ 88 (by rw [sgL_len])
def powR (m : Nat) (s : Bool) : Nat->Nat × Bool
  | 0=>(1,false)
  | j + 1=>((powR m s j).1 * m,((powR m s j).2 != s) && !decide ((powR m s j).1 * m = 0))
theorem fit_small {n : Nat} (h : digN n <= 120) : n < bb ^ 14:=by
  by_cases h0 : n = 0
  · subst h0;exact bb_pow_pos _
  · unfold digN at h
    rw [if_neg h0] at h
    have:=nD_lt 120 n h
    have key : ∀ c,120 <= 9 * c->10 ^ 120 <= bb ^ c:=fun c h=>by rw [bb_ten,<- Nat.pow_mul];exact Nat.pow_le_pow_right (by omega) h
    exact Nat.lt_of_lt_of_le this (key 14 (by omega))
set_option maxHeartbeats 1000000 in
set_option maxRecDepth 100000 in
theorem pow_ok (s : ByteArray) (h : ckL s.data.toList = 0) (n : Nat) (hn : n <= 1000) (hfit : ∀ j,j <= n->digN (powR (intM s.data.toList) (intS s.data.toList) j).1 <= 120) (w : World) (hg : Gl w) :
    Calls Tryz.prog 31 #[.string s,.int .i64 n] w fun e w'=>e = .returned (resT (powR (intM s.data.toList) (intS s.data.toList) n).1 (powR (intM s.data.toList) (intS s.data.toList) n).2)/\Below w.heap.size w w':=by
  have cc:=check_any s w
  rw [h] at cc
  have Cc:=Lib.hid cc
  have HG:=Lib.hid hg
  have cp:=fun w g=>parse_ck s h w g
  have hm:=intM_small _ h
  obtain ⟨m,hm0⟩ : ∃ m,intM s.data.toList = m:=⟨_,rfl⟩
  obtain ⟨sg,hs0⟩ : ∃ sg,intS s.data.toList = sg:=⟨_,rfl⟩
  rw [hm0,hs0] at cp hfit ⊢
  rw [hm0] at hm
  have Cp:=Lib.hid cp
  have Hm:=Lib.hid hm
  have Hfit:=Lib.hid hfit
  have d1 : decide ((n : Int) < 0) = false:=by simp
  have d2 : decide ((1000 : Int) < (n : Int)) = false:=by simp;omega
  clear cc hg h cp hm hm0 hs0 hfit
  go_enter Tryz.func31,Tryz.ntmps31
  go_wp2_with (first
    | (go_at_call 12;(with_reducible refine (Cc.out).mono ?_);rintro e w1 ⟨rfl,hb1⟩;have HB1:=Lib.hid hb1;have HG1:=Lib.hid (HG.out.keep hb1);clear hb1)
    | (go_at_call 72;(with_reducible refine (Cp.out _ HG1.out).mono ?_);rintro e w2 ⟨rfl,hb2⟩;have HB2:=Lib.hid (HB1.out.trans (hb2.mono HB1.out.size));clear hb2)
    | (go_at_call 94;(with_reducible refine (small_one _).mono ?_);rintro e w3 ⟨rfl,hb3⟩;have HB3:=Lib.hid (HB2.out.trans (hb3.mono HB2.out.size));clear hb3)
    | (go_at_call 93;(with_reducible refine (number_one _).mono ?_);rintro e w4 ⟨rfl,hb4⟩;have HB4:=Lib.hid (HB3.out.trans (hb4.mono HB3.out.size));clear hb4)
    | ((with_reducible refine al_zb 88 _ w4.heap.size ?_ ?_ z88 ?_);(· exact ⟨rfl,rfl⟩);· rfl)
    | ((with_reducible refine al_zb 88 _ (w4.heap.size + 1) ?_ ?_ z88 ?_);(· exact ⟨rfl,rfl⟩);· (simp;done))
    | ((with_reducible refine st88 w4.heap.size 0 m sg ?_ ?_ ?_);(· exact ⟨rfl,_,_,rfl,rfl,rfl⟩);· exact pw_there0 w4)
    | ((with_reducible refine st88 (w4.heap.size + 1) 0 1 false ?_ ?_ ?_);(· exact ⟨rfl,_,_,rfl,rfl,rfl⟩);· exact World.there_setCells (pw_there1 w4) _ _ _))
  have r7:=range_set (cs:=sgL m sg) (pw_there0 w4) (by rw [sgL_len])
  have t8:=World.there_setCells (pw_there1 w4) w4.heap.size 0 (sgL m sg)
  have H7:=Lib.hid (range_setk (b2:=w4.heap.size + 1) (o2:=0) (vs:=sgL 1 false) r7 (by omega))
  have H8:=Lib.hid (range_set (cs:=sgL 1 false) t8 (by rw [sgL_len]))
  have T8:=Lib.hid (World.there_setCells t8 (w4.heap.size + 1) 0 (sgL 1 false))
  have hbw : Below w.heap.size w ((((w4.alloc (.cells (sgL 0 false).toArray 88)).alloc (.cells (sgL 0 false).toArray 88)).setCells w4.heap.size 0 (sgL m sg)).setCells (w4.heap.size + 1) 0 (sgL 1 false)) :=
    below_set (below_set ((HB4.out.alloc HB4.out.size (.cells (sgL 0 false).toArray 88)).alloc (by have:=HB4.out.size;simp;omega) (.cells (sgL 0 false).toArray 88)) (by have:=HB4.out.size;omega) 0 (sgL m sg)) (by have:=HB4.out.size;omega) 0 (sgL 1 false)
  have HBW:=Lib.hid hbw;clear hbw
  clear r7 t8
  go_loopw [26] (fun i wr=>∃ k : Nat,i = .int .i64 k/\k <= n/\wr.rangeAt w4.heap.size 0 (sgL m sg)/\wr.rangeAt (w4.heap.size + 1) 0 (sgL (powR m sg k).1 (powR m sg k).2)/\wr.there (w4.heap.size + 1) 0 31/\Below w.heap.size w wr) (fun i _=>n - (intOf i).toNat)
  case atStart=>exact ⟨0,rfl,by omega,H7.out,H8.out,T8.out,HBW.out⟩
  case round =>
    obtain ⟨k,rfl,hk,r7,r8,t8,hb⟩:=hrel
    by_cases hlt : k < n
    · have d3 : decide ((k : Int) < (n : Int)) = true:=by simp;omega
      have hp:=fit_small (Hfit.out k (by omega))
      have hf:=Hfit.out (k + 1) (by omega)
      have e1 : (powR m sg (k + 1)).1 = (powR m sg k).1 * m:=rfl
      have e2 : (powR m sg (k + 1)).2 = (((powR m sg k).2 != sg) && !decide ((powR m sg k).1 * m = 0)):=rfl
      rw [e1] at hf
      obtain ⟨p,hp0⟩ : ∃ p,(powR m sg k).1 = p:=⟨_,rfl⟩
      obtain ⟨q,hq0⟩ : ∃ q,(powR m sg k).2 = q:=⟨_,rfl⟩
      rw [hp0] at e1 e2 hp hf r8
      rw [hq0] at e2 r8
      have ct:=fun w=>timesS_any p m q sg (big_of hp) (big_of Hm.out) (mul_lt hp Hm.out) w
      rw [<- e2] at ct
      obtain ⟨u,hu⟩ : ∃ u,p * m = u:=⟨_,rfl⟩
      obtain ⟨z,hz⟩ : ∃ z,(powR m sg (k + 1)).2 = z:=⟨_,rfl⟩
      rw [hu] at e1 hf ct
      rw [hz] at ct
      have cf:=fun w g=>fits_any u z (big_of (fit_small hf)) w g
      rw [show fitsV u = 0 by unfold fitsV;rw [if_neg (by omega)]] at cf
      have Ct:=Lib.hid ct;have Cf:=Lib.hid cf
      have R7:=Lib.hid r7;have R8:=Lib.hid r8;have T8:=Lib.hid t8;have Hb:=Lib.hid hb
      have E1:=Lib.hid e1;have Hz:=Lib.hid hz
      clear ct cf r7 r8 t8 hb e1 e2 hp hf hp0 hq0 hu hz
      go_wp2_with (first
        | ((with_reducible refine ld88 (w4.heap.size + 1) 0 p q ?_ ?_ ?_);(· exact ⟨rfl,_,rfl,rfl⟩);· exact R8.out)
        | ((with_reducible refine ld88 w4.heap.size 0 m sg ?_ ?_ ?_);(· exact ⟨rfl,_,rfl,rfl⟩);· exact R7.out)
        | (go_at_call 83;(with_reducible refine (Ct.out _).mono ?_);rintro e w5 ⟨rfl,hb5⟩;have HB5:=Lib.hid (Hb.out.trans (hb5.mono Hb.out.size));have R75:=Lib.hid (range_keep R7.out hb5);have T85:=Lib.hid (there_keep T8.out hb5);have HB6:=Lib.hid (below_set HB5.out (show w.heap.size <= w4.heap.size + 1 by have:=HB4.out.size;omega) 0 (sgL u z));clear hb5)
        | ((with_reducible refine st88 (w4.heap.size + 1) 0 u z ?_ ?_ ?_);(· exact ⟨rfl,_,_,rfl,rfl,rfl⟩);· exact T85.out)
        | ((with_reducible refine ld88 (w4.heap.size + 1) 0 u z ?_ ?_ ?_);(· exact ⟨rfl,_,rfl,rfl⟩);· exact range_set T85.out (by rw [sgL_len]))
        | (go_at_call 89;(with_reducible refine (Cf.out _ (HG.out.keep HB6.out)).mono ?_);rintro e w7 ⟨rfl,hb7⟩;have HB7:=Lib.hid (HB6.out.trans (hb7.mono HB6.out.size));have R77:=Lib.hid (range_keep (range_setk (b2:=w4.heap.size + 1) (o2:=0) (vs:=sgL u z) R75.out (by omega)) hb7);have R87:=Lib.hid (range_keep (range_set T85.out (by rw [sgL_len]) : World.rangeAt _ _ _ (sgL u z)) hb7);have T87:=Lib.hid (there_keep (World.there_setCells T85.out (w4.heap.size + 1) 0 (sgL u z)) hb7);clear hb7))
      go_roundw
      case rel=>exact ⟨k + 1,by go_num,by omega,R77.out,by rw [E1.out,Hz.out];exact R87.out,T87.out,HB7.out⟩
      case measure=>simp [intOf];omega
    · have hkn : k = n:=by omega
      have d3 : decide ((k : Int) < (n : Int)) = false:=by simp;omega
      rw [hkn] at r8
      have hp:=big_of (fit_small (Hfit.out n (by omega)))
      have cr:=fun w g=>result_any (powR m sg n).1 (powR m sg n).2 hp w g
      obtain ⟨p,hp0⟩ : ∃ p,(powR m sg n).1 = p:=⟨_,rfl⟩
      obtain ⟨q,hq0⟩ : ∃ q,(powR m sg n).2 = q:=⟨_,rfl⟩
      rw [hp0,hq0] at cr r8
      obtain ⟨T,hT⟩ : ∃ T : ByteArray,(if digN p <= 120 then (⟨(sgText p q).toArray⟩ : ByteArray) else ⟨#[]⟩) = T:=⟨_,rfl⟩
      obtain ⟨E,hE⟩ : ∃ E,fitsV p = E:=⟨_,rfl⟩
      rw [hT,hE] at cr
      have Cr:=Lib.hid cr
      have R8:=Lib.hid r8;have Hb:=Lib.hid hb
      have HT:=Lib.hid hT;have HE:=Lib.hid hE;have HP:=Lib.hid hp0;have HQ:=Lib.hid hq0
      clear cr r7 r8 t8 hb hp hp0 hq0 hT hE hkn
      go_wp2_with (first
        | ((with_reducible refine ld88 (w4.heap.size + 1) 0 p q ?_ ?_ ?_);(· exact ⟨rfl,_,rfl,rfl⟩);· exact R8.out)
        | (go_at_call 74;(with_reducible refine (Cr.out _ (HG.out.keep Hb.out)).mono ?_);rintro e w5 ⟨rfl,hb5⟩;have HB5:=Lib.hid (Hb.out.trans (hb5.mono Hb.out.size));clear hb5))
      go_ret2
      refine ⟨?_,HB5.out⟩
      unfold resT
      rw [HP.out,HQ.out,HT.out,HE.out];rfl
end
end Go.Proofs.YtpbegoflpfdajaaGreatDoor
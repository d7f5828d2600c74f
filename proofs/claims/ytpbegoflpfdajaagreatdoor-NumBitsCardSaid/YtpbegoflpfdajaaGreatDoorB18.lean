/- WHAT IS PROVED: contracts of functions of the numbers package and laws for them, used by the last text of this claim. CONDITIONS: stated at each theorem. -/
import Derived.Test.YtpbegoflpfdajaaGreatDoorB17
import Derived.Test.YtpbegoflpfdajaaGreatDoorB16
namespace Go.Proofs.YtpbegoflpfdajaaGreatDoor
section
open Go.RowKit
set_option maxHeartbeats 1000000 in
theorem divide_lt (m o : Nat) (hm : m < bb ^ 30) (ho : o < bb ^ 30) (hlt : m < o) (w : World) :
    Calls Tryz.prog 154 #[.agg (mgL m).toArray,.agg (mgL o).toArray] w fun e w'=>e = .returned (.tuple #[.agg (mgL 0).toArray,.agg (mgL m).toArray])/\Below w.heap.size w w':=by
  have hc:=fun w=>compare_any m o hm ho w
  obtain ⟨x,hx⟩ : ∃ x,cmpN m o = x:=⟨_,rfl⟩
  rw [hx] at hc
  have t1 : decide (x < 0) = true:=by simpa [cmp_neg hx] using hlt
  have Hc:=Lib.hid hc
  have Hr0:=Lib.hid (show (((((w.alloc (.cells (mgL m).toArray 86)).alloc (.cells (mgL o).toArray 86)).alloc (.cells (mgL 0).toArray 86)).alloc (.cells (mgL 0).toArray 86))).rangeAt w.heap.size 0 (mgL m) from World.rangeAt_alloc (World.rangeAt_alloc (World.rangeAt_alloc (range_new w _ 86) _) _) _)
  have Hr1:=Lib.hid (show (((((w.alloc (.cells (mgL m).toArray 86)).alloc (.cells (mgL o).toArray 86)).alloc (.cells (mgL 0).toArray 86)).alloc (.cells (mgL 0).toArray 86))).rangeAt (w.heap.size + 1) 0 (mgL o) from World.rangeAt_alloc (World.rangeAt_alloc (range_at (by simp) _ 86) _) _)
  have Ht2:=Lib.hid (show (((((w.alloc (.cells (mgL m).toArray 86)).alloc (.cells (mgL o).toArray 86)).alloc (.cells (mgL 0).toArray 86)).alloc (.cells (mgL 0).toArray 86))).there (w.heap.size + 2) 0 30 from World.there_alloc (there_at (by simp) _ 86 (by rw [mgL_len])) _)
  have Ht3:=Lib.hid (show (((((w.alloc (.cells (mgL m).toArray 86)).alloc (.cells (mgL o).toArray 86)).alloc (.cells (mgL 0).toArray 86)).alloc (.cells (mgL 0).toArray 86))).there (w.heap.size + 3) 0 30 from there_at (by simp) _ 86 (by rw [mgL_len]))
  have Hb:=Lib.hid (show Below w.heap.size w (((((w.alloc (.cells (mgL m).toArray 86)).alloc (.cells (mgL o).toArray 86)).alloc (.cells (mgL 0).toArray 86)).alloc (.cells (mgL 0).toArray 86))) from ((((Below.refl w.heap.size w).alloc (Nat.le_refl _) _).alloc (by simp) _).alloc (by simp;omega) _).alloc (by simp;omega) _)
  clear hc hx hlt hm ho
  go_enter Tryz.func154,Tryz.ntmps154
  go_wp2_with (first
    | ((with_reducible refine al_zb 86 _ (w.heap.size + 2) ?_ ?_ z86 ?_);(· exact ⟨rfl,rfl⟩);· (simp;done))
    | ((with_reducible refine al_zb 86 _ (w.heap.size + 3) ?_ ?_ z86 ?_);(· exact ⟨rfl,rfl⟩);· (simp;done))
    | ((with_reducible refine ld86 w.heap.size 0 m ?_ ?_ ?_);(· exact ⟨rfl,_,rfl,rfl⟩);· exact Hr0.out)
    | ((with_reducible refine ld86 (w.heap.size + 1) 0 o ?_ ?_ ?_);(· exact ⟨rfl,_,rfl,rfl⟩);· exact Hr1.out)
    | (go_at_call 146;(with_reducible refine (Hc.out _).mono ?_);rintro e w1 ⟨rfl,hb1⟩;have HB1:=Lib.hid hb1;clear hb1))
  have HBx:=Lib.hid (Hb.out.trans (HB1.out.mono Hb.out.size))
  refine wp_region_held_drew (S:=(fun w'=>Below w.heap.size w w'/\w'.rangeAt w.heap.size 0 (mgL m)/\w'.there (w.heap.size + 2) 0 30/\w'.there (w.heap.size + 3) 0 30)) (by kernel_rfl) ?_ (fun hH=>?_)
  · exact ⟨HBx.out.drew,range_keep Hr0.out HB1.out.drew,there_keep Ht2.out HB1.out.drew,there_keep Ht3.out HB1.out.drew⟩
  try dsimp only at hH
  refine wpAnyH_take (i:=0) (v:=(.agg (mgL 0).toArray)) rfl (by kernel_rfl) (by kernel_rfl) (by kernel_rfl) (fun _ _ _ h=>h) (Or.inl ⟨by rfl,fun wz hz=>by rw [zero_mg];go_simp⟩) hH ?_
  try simp only [Act.put,List.getElem_toArray,List.getElem_cons_zero,List.setIfInBounds_toArray,List.set_cons_zero,List.set_cons_succ]
  refine wpAnyH_take (i:=1) (v:=(.agg (mgL m).toArray)) rfl (by kernel_rfl) (by kernel_rfl) (by kernel_rfl) (fun _ _ _ h=>h) (yld86 w.heap.size 0 m rfl ⟨_,rfl,rfl⟩ (fun wz hz=>hz.2.1)) hH ?_
  try simp only [Act.put,List.getElem_toArray,List.getElem_cons_succ,List.getElem_cons_zero,List.setIfInBounds_toArray,List.set_cons_zero,List.set_cons_succ]
  refine wpAnyH_ready (rs:=[2]) (by kernel_rfl) (by simp) ?_
  refine AllReadyH.cons rfl (fun K hK=>?_) AllReadyH.nil
  simp only [List.getElem_toArray,List.getElem_cons_succ,List.getElem_cons_zero]
  rw [if_pos (by rfl)]
  with_reducible refine wst86 (w.heap.size + 2) 0 0 ?_ hH.2.2.1 ?_
  · exact ⟨_,_,rfl,rfl,rfl⟩
  refine hK.out _ _ ?_ (fun hH1=>?_)
  · exact ⟨below_set hH.1 (by omega) _ _,range_setk hH.2.1 (by first | trivial | omega),there_setk hH.2.2.1 (by first | trivial | omega),there_setk hH.2.2.2 (by first | trivial | omega)⟩
  clear hK K
  try simp only [Act.put]
  refine wpAnyH_ready (rs:=[3]) (by kernel_rfl) (by simp) ?_
  refine AllReadyH.cons rfl (fun K hK=>?_) AllReadyH.nil
  simp only [List.getElem_toArray,List.getElem_cons_succ,List.getElem_cons_zero]
  rw [if_pos (by rfl)]
  with_reducible refine wst86 (w.heap.size + 3) 0 m ?_ hH1.2.2.2 ?_
  · exact ⟨_,_,rfl,rfl,rfl⟩
  refine hK.out _ _ ?_ (fun hH2=>?_)
  · exact ⟨below_set hH1.1 (by omega) _ _,range_setk hH1.2.1 (by first | trivial | omega),there_setk hH1.2.2.1 (by first | trivial | omega),there_setk hH1.2.2.2 (by first | trivial | omega)⟩
  clear hK K
  try simp only [Act.put]
  refine wpAnyH_done (by kernel_rfl) ?_ _
  go_wp2
  exact ret_cell_cell Tryz.results154 (w.heap.size + 2) 0 (w.heap.size + 3) 0 rfl rfl 0 m (range_setk (range_set hH.2.2.1 (by rw [mgL_len])) (by omega)) (range_set hH1.2.2.2 (by rw [mgL_len])) rfl ⟨rfl,hH2.1⟩
end
section
open Go.RowKit
set_option maxHeartbeats 1000000 in
theorem divide_limb (m o : Nat) (hm : m < bb ^ 30) (ho : o < bb) (h0 : 0 < o) (hge : o <= m) (w : World) :
    Calls Tryz.prog 154 #[.agg (mgL m).toArray,.agg (mgL o).toArray] w fun e w'=>e = .returned (.tuple #[.agg (mgL (m / o)).toArray,.agg (mgL (m % o)).toArray])/\Below w.heap.size w w':=by
  have ho30 : o < bb ^ 30:=Nat.lt_of_lt_of_le (show o < bb ^ 1 by rw [Nat.pow_one];exact ho) (pow_mono (by omega))
  have hc:=fun w=>compare_any m o hm ho30 w
  obtain ⟨x,hx⟩ : ∃ x,cmpN m o = x:=⟨_,rfl⟩
  rw [hx] at hc
  have t1 : decide (x < 0) = false:=by simpa [cmp_neg hx] using hge
  have hs1 : lsz o = 1:=by rw [lsz_pos (by omega),Nat.div_eq_of_lt ho,lsz_zero]
  have cs:=fun w=>size_any o ho30 w
  rw [hs1] at cs
  change ∀ w,Calls Tryz.prog 159 #[.agg (mgL o).toArray] w (fun e w'=>e = .returned (.int .i64 1)/\Below w.heap.size w w') at cs
  have Cs:=Lib.hid cs
  have Hc:=Lib.hid hc
  have Cd:=Lib.hid (fun w=>divLimb_any m o hm h0 ho w)
  have Cr:=Lib.hid (fun w=>small_any (m % o) (Nat.lt_trans (Nat.mod_lt _ h0) ho) w)
  have Hlo:=Lib.hid (show lim o 0 = o from lim_small ho)
  have Hr0:=Lib.hid (show (((((w.alloc (.cells (mgL m).toArray 86)).alloc (.cells (mgL o).toArray 86)).alloc (.cells (mgL 0).toArray 86)).alloc (.cells (mgL 0).toArray 86))).rangeAt w.heap.size 0 (mgL m) from World.rangeAt_alloc (World.rangeAt_alloc (World.rangeAt_alloc (range_new w _ 86) _) _) _)
  have Hr1:=Lib.hid (show (((((w.alloc (.cells (mgL m).toArray 86)).alloc (.cells (mgL o).toArray 86)).alloc (.cells (mgL 0).toArray 86)).alloc (.cells (mgL 0).toArray 86))).rangeAt (w.heap.size + 1) 0 (mgL o) from World.rangeAt_alloc (World.rangeAt_alloc (range_at (by simp) _ 86) _) _)
  have Ht2:=Lib.hid (show (((((w.alloc (.cells (mgL m).toArray 86)).alloc (.cells (mgL o).toArray 86)).alloc (.cells (mgL 0).toArray 86)).alloc (.cells (mgL 0).toArray 86))).there (w.heap.size + 2) 0 30 from World.there_alloc (there_at (by simp) _ 86 (by rw [mgL_len])) _)
  have Ht3:=Lib.hid (show (((((w.alloc (.cells (mgL m).toArray 86)).alloc (.cells (mgL o).toArray 86)).alloc (.cells (mgL 0).toArray 86)).alloc (.cells (mgL 0).toArray 86))).there (w.heap.size + 3) 0 30 from there_at (by simp) _ 86 (by rw [mgL_len]))
  have Hb:=Lib.hid (show Below w.heap.size w (((((w.alloc (.cells (mgL m).toArray 86)).alloc (.cells (mgL o).toArray 86)).alloc (.cells (mgL 0).toArray 86)).alloc (.cells (mgL 0).toArray 86))) from ((((Below.refl w.heap.size w).alloc (Nat.le_refl _) _).alloc (by simp) _).alloc (by simp;omega) _).alloc (by simp;omega) _)
  clear hc hx hm ho h0 hge ho30 hs1 cs
  obtain ⟨q,hq⟩ : ∃ q,m / o = q:=⟨_,rfl⟩
  obtain ⟨r,hr⟩ : ∃ r,m % o = r:=⟨_,rfl⟩
  rw [hq,hr] at Cd ⊢
  rw [hr] at Cr
  clear hq hr
  go_enter Tryz.func154,Tryz.ntmps154
  go_wp2_with (first
    | ((with_reducible refine al_zb 86 _ (w.heap.size + 2) ?_ ?_ z86 ?_);(· exact ⟨rfl,rfl⟩);· (simp;done))
    | ((with_reducible refine al_zb 86 _ (w.heap.size + 3) ?_ ?_ z86 ?_);(· exact ⟨rfl,rfl⟩);· (simp;done))
    | ((with_reducible refine ld86 w.heap.size 0 m ?_ ?_ ?_);(· exact ⟨rfl,_,rfl,rfl⟩);· first | exact Hr0.out | exact range_keep Hr0.out HB2.out | exact range_keep Hr0.out HB1.out)
    | ((with_reducible refine ld86 (w.heap.size + 1) 0 o ?_ ?_ ?_);(· exact ⟨rfl,_,rfl,rfl⟩);· first | exact Hr1.out | exact range_keep Hr1.out HB1.out)
    | (go_at_call 146;(with_reducible refine (Hc.out _).mono ?_);rintro e w1 ⟨rfl,hb1⟩;have HB1:=Lib.hid hb1;clear hb1)
    | (go_at_call 159;(with_reducible refine (Cs.out _).mono ?_);rintro e w2 ⟨rfl,hb2⟩;have HB2:=Lib.hid (HB1.out.trans (hb2.mono HB1.out.size));have hl:=cell_of_range (range_keep Hr1.out HB2.out) (mgL_get (n:=o) (i:=0) (by omega));rw [Hlo.out] at hl;clear hb2)
    | (go_at_call 196;(with_reducible refine (Cd.out _).mono ?_);rintro e w3 ⟨rfl,hb3⟩;have HB3:=Lib.hid (HB2.out.trans (hb3.mono HB2.out.size));clear hb3)
    | ((with_reducible refine al_zb 86 _ w3.heap.size ?_ ?_ z86 ?_);(· exact ⟨rfl,rfl⟩);· rfl)
    | ((with_reducible refine st86 w3.heap.size 0 q ?_ ?_ ?_);(· exact ⟨rfl,_,_,rfl,rfl,rfl⟩);· exact there_at rfl _ 86 (by rw [mgL_len])))
  have hw3:=HB3.out.size
  have Hsz:=Lib.hid (show w.heap.size + 4 <= w3.heap.size by simp at hw3;omega)
  have hsz:=Hsz.out
  have HBx:=Lib.hid (below_set ((Hb.out.trans (HB3.out.mono Hb.out.size)).alloc (by omega) (.cells (mgL 0).toArray 86)) (show w.heap.size <= w3.heap.size by omega) 0 (mgL q))
  have Hq:=Lib.hid (range_set (cs:=mgL q) (there_at rfl _ 86 (by rw [mgL_len]) : World.there (w3.alloc (.cells (mgL 0).toArray 86)) w3.heap.size 0 30) (by rw [mgL_len]))
  have Ht2x:=Lib.hid (World.there_setCells (World.there_alloc (there_keep Ht2.out HB3.out) (.cells (mgL 0).toArray 86)) w3.heap.size 0 (mgL q))
  have Ht3x:=Lib.hid (World.there_setCells (World.there_alloc (there_keep Ht3.out HB3.out) (.cells (mgL 0).toArray 86)) w3.heap.size 0 (mgL q))
  clear hw3
  refine wp_region_held_drew (S:=(fun w'=>Below w.heap.size w w'/\w'.rangeAt w3.heap.size 0 (mgL q)/\w'.there (w.heap.size + 2) 0 30/\w'.there (w.heap.size + 3) 0 30)) (by kernel_rfl) ?_ (fun hH=>?_)
  · exact ⟨HBx.out.drew,Hq.out,Ht2x.out,Ht3x.out⟩
  try dsimp only at hH
  refine wpAnyH_take (i:=0) (v:=(.agg (mgL q).toArray)) rfl (by kernel_rfl) (by kernel_rfl) (by kernel_rfl) (fun _ _ _ h=>h) (yld86 w3.heap.size 0 q rfl ⟨_,rfl,rfl⟩ (fun wz hz=>hz.2.1)) hH ?_
  try simp only [Act.put,List.getElem_toArray,List.getElem_cons_zero,List.setIfInBounds_toArray,List.set_cons_zero,List.set_cons_succ]
  refine wpAnyH_take (i:=1) (v:=(.int .u32 r)) rfl (by kernel_rfl) (by kernel_rfl) (by kernel_rfl) (fun _ _ _ h=>h) (Or.inl ⟨by rfl,fun wz hz=>by skip;go_simp⟩) hH ?_
  try simp only [Act.put,List.getElem_toArray,List.getElem_cons_succ,List.getElem_cons_zero,List.setIfInBounds_toArray,List.set_cons_zero,List.set_cons_succ]
  refine wpAnyH_ready (rs:=[2]) (by kernel_rfl) (by simp) ?_
  refine AllReadyH.cons rfl (fun K hK=>?_) AllReadyH.nil
  simp only [List.getElem_toArray,List.getElem_cons_succ,List.getElem_cons_zero]
  rw [if_pos (by rfl)]
  go_simp
  refine (Cr.out _).mono ?_;rintro e w1 ⟨rfl,hb1⟩
  try simp only []
  refine hK.out _ _ ?_ (fun hH1=>?_)
  · exact ⟨(hH.1).trans (hb1.mono (hH.1).size),range_keep hH.2.1 hb1,there_keep hH.2.2.1 hb1,there_keep hH.2.2.2 hb1⟩
  clear hK K
  try simp only [Act.put,List.getElem_toArray,List.getElem_cons_succ,List.getElem_cons_zero,List.setIfInBounds_toArray,List.set_cons_zero,List.set_cons_succ]
  refine wpAnyH_ready (rs:=[3]) (by kernel_rfl) (by simp) ?_
  refine AllReadyH.cons rfl (fun K hK=>?_) AllReadyH.nil
  simp only [List.getElem_toArray,List.getElem_cons_succ,List.getElem_cons_zero]
  rw [if_pos (by rfl)]
  with_reducible refine wst86 (w.heap.size + 2) 0 q ?_ hH1.2.2.1 ?_
  · exact ⟨_,_,rfl,rfl,rfl⟩
  refine hK.out _ _ ?_ (fun hH2=>?_)
  · exact ⟨below_set hH1.1 (by omega) _ _,range_setk hH1.2.1 (by first | trivial | omega),there_setk hH1.2.2.1 (by first | trivial | omega),there_setk hH1.2.2.2 (by first | trivial | omega)⟩
  clear hK K
  try simp only [Act.put]
  refine wpAnyH_ready (rs:=[4]) (by kernel_rfl) (by simp) ?_
  refine AllReadyH.cons rfl (fun K hK=>?_) AllReadyH.nil
  simp only [List.getElem_toArray,List.getElem_cons_succ,List.getElem_cons_zero]
  rw [if_pos (by rfl)]
  with_reducible refine wst86 (w.heap.size + 3) 0 r ?_ hH2.2.2.2 ?_
  · exact ⟨_,_,rfl,rfl,rfl⟩
  refine hK.out _ _ ?_ (fun hH3=>?_)
  · exact ⟨below_set hH2.1 (by omega) _ _,range_setk hH2.2.1 (by first | trivial | omega),there_setk hH2.2.2.1 (by first | trivial | omega),there_setk hH2.2.2.2 (by first | trivial | omega)⟩
  clear hK K
  try simp only [Act.put]
  refine wpAnyH_done (by kernel_rfl) ?_ _
  go_wp2
  exact ret_cell_cell Tryz.results154 (w.heap.size + 2) 0 (w.heap.size + 3) 0 rfl rfl q r (range_setk (range_set hH1.2.2.1 (by rw [mgL_len])) (by omega)) (range_set hH2.2.2.2 (by rw [mgL_len])) rfl ⟨rfl,hH3.1⟩
end
section
open Go.RowKit
theorem mg_word (n : Nat) (hn : n < bb ^ 2) : (mgL (n % bb)).set 1 (.int .u32 ((n / bb : Nat) : Int)) = mgL n:=by
  have h1 : n / bb < bb:=by rw [Nat.div_lt_iff_lt_mul bb_pos];rwa [Nat.pow_two] at hn
  have h0 : n % bb < bb:=Nat.mod_lt _ bb_pos
  apply List.ext_getElem?
  intro i
  rw [List.getElem?_set]
  by_cases h : 1 = i
  · subst h
    rw [if_pos rfl,if_pos (by rw [mgL_len];omega),mgL_get (by omega)]
    congr 2
    unfold lim
    rw [Nat.pow_one,Nat.mod_eq_of_lt h1]
  · rw [if_neg h]
    by_cases hi : i < 30
    · rw [mgL_get hi,mgL_get hi]
      congr 2
      cases i with
      | zero=>rw [lim_small h0];unfold lim;simp
      | succ i =>
        rw [lim_small_succ h0]
        rw [lim_of_lt' (i:=2) hn (by omega)]
    · rw [List.getElem?_eq_none (by rw [mgL_len];omega),List.getElem?_eq_none (by rw [mgL_len];omega)]
theorem fw_facts (w1 : World) (a n b : Nat) (h : (mgL a).set 1 (.int .u32 (b : Int)) = mgL n) :
    ((w1.alloc (.cells (mgL 0).toArray 86)).setCells w1.heap.size 0 (mgL a)).cell? ⟨w1.heap.size,1,none⟩ = some (.int .u32 (lim a 1)) /\
    ((w1.alloc (.cells (mgL 0).toArray 86)).setCells w1.heap.size 0 (mgL a)).frozen? ⟨w1.heap.size,1,none⟩ = false /\
    (((w1.alloc (.cells (mgL 0).toArray 86)).setCells w1.heap.size 0 (mgL a)).setCell ⟨w1.heap.size,1,none⟩ (.int .u32 (b : Int))).rangeAt w1.heap.size 0 (mgL n):=by
  have ht : (w1.alloc (.cells (mgL 0).toArray 86)).there w1.heap.size 0 30:=there_at rfl _ 86 (by rw [mgL_len])
  have hr:=range_set (cs:=mgL a) ht (by rw [mgL_len])
  refine ⟨cell_of_range hr (mgL_get (by omega)),?_,?_⟩
  · have:=(World.there_setCells ht w1.heap.size 0 (mgL a) 1 (by omega)).2
    rwa [Nat.zero_add] at this
  · rw [<- h];exact range_setCell hr 1 _ (by rw [mgL_len];omega)
set_option maxHeartbeats 400000 in
theorem fromWord_any (n : Nat) (hn : n < bb ^ 2) (w : World) :
    Calls Tryz.prog 160 #[.int .u64 n] w fun e w'=>e = .returned (.agg (mgL n).toArray)/\Below w.heap.size w w':=by
  have hb : bb ^ 2 = 1000000000000000000:=by unfold bb;rfl
  have h64 : n < 1000000000000000000:=by rw [<- hb];exact hn
  have HW:=Lib.hid (mg_word n hn)
  have h1 : n % bb = n % 1000000000:=rfl
  have Cs:=Lib.hid (fun w=>small_any (n % bb) (Nat.mod_lt _ bb_pos) w)
  have e1 : IntKind.u32.wrap ((n : Int) % 1000000000) = ((n % bb : Nat) : Int):=by rw [h1,IntWalk.u32_in _ (by omega)];omega
  have e2 : IntKind.u32.wrap (IntKind.u64.wrap ((n : Int) / 1000000000)) = ((n / bb : Nat) : Int):=by
    show _ = ((n / 1000000000 : Nat) : Int)
    rw [IntWalk.u64_in _ (by omega),IntWalk.u32_in _ (by omega)];omega
  clear hb h1
  obtain ⟨a,ha⟩ : ∃ a,n % bb = a:=⟨_,rfl⟩
  obtain ⟨b,hb⟩ : ∃ b,n / bb = b:=⟨_,rfl⟩
  rw [ha] at e1 Cs HW
  rw [hb] at e2 HW
  clear ha hb hn h64
  have HT0:=Lib.hid (show (w.alloc (.cells (mgL 0).toArray 86)).there w.heap.size 0 30 from there_at rfl _ 86 (by rw [mgL_len]))
  go_enter Tryz.func160,Tryz.ntmps160
  go_wp2_with (first
    | ((with_reducible refine al_zb 86 _ w.heap.size ?_ ?_ z86 ?_);(· exact ⟨rfl,rfl⟩);· rfl)
    | (go_at_call 94;(with_reducible refine (Cs.out _).mono ?_);rintro e w1 ⟨rfl,hb1⟩;have HB1:=Lib.hid hb1;have FW:=Lib.hid (fw_facts w1 a n b HW.out);have hc:=FW.out.1;have hf:=FW.out.2.1;clear hb1)
    | ((with_reducible refine al_zb 86 _ w1.heap.size ?_ ?_ z86 ?_);(· exact ⟨rfl,rfl⟩);· rfl)
    | ((with_reducible refine st86 w1.heap.size 0 a ?_ ?_ ?_);(· exact ⟨rfl,_,_,rfl,rfl,rfl⟩);· exact there_at rfl _ 86 (by rw [mgL_len]))
    | ((with_reducible refine ld86 w1.heap.size 0 n ?_ ?_ ?_);(· exact ⟨rfl,_,rfl,rfl⟩);· exact FW.out.2.2)
    | ((with_reducible refine st86 w.heap.size 0 n ?_ ?_ ?_);(· exact ⟨rfl,_,_,rfl,rfl,rfl⟩);· exact there_setCell (World.there_setCells (World.there_alloc (there_keep HT0.out HB1.out) _) _ _ _) _ _))
  have hw1:=HB1.out.size
  have hs : w.heap.size + 1 <= w1.heap.size:=by simpa using hw1
  have hb0 : Below w.heap.size w (w.alloc (.cells (mgL 0).toArray 86)):=(Below.refl _ _).alloc (Nat.le_refl _) _
  refine ret86 Tryz.results160 w.heap.size 0 rfl n (range_set (there_setCell (World.there_setCells (World.there_alloc (there_keep HT0.out HB1.out) _) _ _ _) _ _) (by rw [mgL_len])) rfl ⟨rfl,?_⟩
  exact below_set ((below_set ((hb0.trans (HB1.out.mono hb0.size)).alloc (by omega) _) (by omega) _ _).setCell (p:=⟨w1.heap.size,1,none⟩) (by simp;omega) _) (Nat.le_refl _) _ _
end
section
open Go.RowKit
theorem divide_any (m o : Nat) (hm : m < bb ^ 30) (ho : o < bb) (h0 : 0 < o) (w : World) :
    Calls Tryz.prog 154 #[.agg (mgL m).toArray,.agg (mgL o).toArray] w fun e w'=>e = .returned (.tuple #[.agg (mgL (m / o)).toArray,.agg (mgL (m % o)).toArray])/\Below w.heap.size w w':=by
  by_cases h : m < o
  · rw [Nat.div_eq_of_lt h,Nat.mod_eq_of_lt h]
    exact divide_lt m o hm (Nat.lt_of_lt_of_le (show o < bb ^ 1 by rw [Nat.pow_one];exact ho) (pow_mono (by omega))) h w
  · exact divide_limb m o hm ho h0 (by omega) w
theorem gd_there0 (w : World) : ((w.alloc (.cells (mgL 0).toArray 86)).alloc (.cells (mgL 0).toArray 86)).there w.heap.size 0 30:=World.there_alloc (there_at rfl _ 86 (by rw [mgL_len])) _
theorem gd_there1 (w : World) : ((w.alloc (.cells (mgL 0).toArray 86)).alloc (.cells (mgL 0).toArray 86)).there (w.heap.size + 1) 0 30:=there_at (by simp) _ 86 (by rw [mgL_len])
end
section
open Go.RowKit
set_option maxHeartbeats 1000000 in
theorem divide_big (m o : Nat) (hm : m < bb ^ 29) (ho : o < bb ^ 30) (h2 : 2 <= lsz o) (hge : o <= m) (w : World) :
    Calls Tryz.prog 154 #[.agg (mgL m).toArray,.agg (mgL o).toArray] w fun e w'=>e = .returned (.tuple #[.agg (mgL (m / o)).toArray,.agg (mgL (m % o)).toArray])/\Below w.heap.size w w':=by
  have hm30 : m < bb ^ 30:=Nat.lt_of_lt_of_le hm (pow_mono (by omega))
  have hc:=fun w=>compare_any m o hm30 ho w
  obtain ⟨x,hx⟩ : ∃ x,cmpN m o = x:=⟨_,rfl⟩
  rw [hx] at hc
  have t1 : decide (x < 0) = false:=by simpa [cmp_neg hx] using hge
  have cs:=fun w=>size_any o ho w
  have t2 : ((lsz o : Int) == 1) = false:=by simp;omega
  obtain ⟨s,hs⟩ : ∃ s,lsz o = s:=⟨_,rfl⟩
  have Cd:=Lib.hid (fun w=>divLong_any m o hm ho h2 hge w)
  rw [hs] at cs t2
  have Cs:=Lib.hid cs
  have Hc:=Lib.hid hc
  have Hr0:=Lib.hid (show (((((w.alloc (.cells (mgL m).toArray 86)).alloc (.cells (mgL o).toArray 86)).alloc (.cells (mgL 0).toArray 86)).alloc (.cells (mgL 0).toArray 86))).rangeAt w.heap.size 0 (mgL m) from World.rangeAt_alloc (World.rangeAt_alloc (World.rangeAt_alloc (range_new w _ 86) _) _) _)
  have Hr1:=Lib.hid (show (((((w.alloc (.cells (mgL m).toArray 86)).alloc (.cells (mgL o).toArray 86)).alloc (.cells (mgL 0).toArray 86)).alloc (.cells (mgL 0).toArray 86))).rangeAt (w.heap.size + 1) 0 (mgL o) from World.rangeAt_alloc (World.rangeAt_alloc (range_at (by simp) _ 86) _) _)
  have Ht2:=Lib.hid (show (((((w.alloc (.cells (mgL m).toArray 86)).alloc (.cells (mgL o).toArray 86)).alloc (.cells (mgL 0).toArray 86)).alloc (.cells (mgL 0).toArray 86))).there (w.heap.size + 2) 0 30 from World.there_alloc (there_at (by simp) _ 86 (by rw [mgL_len])) _)
  have Ht3:=Lib.hid (show (((((w.alloc (.cells (mgL m).toArray 86)).alloc (.cells (mgL o).toArray 86)).alloc (.cells (mgL 0).toArray 86)).alloc (.cells (mgL 0).toArray 86))).there (w.heap.size + 3) 0 30 from there_at (by simp) _ 86 (by rw [mgL_len]))
  have Hb:=Lib.hid (show Below w.heap.size w (((((w.alloc (.cells (mgL m).toArray 86)).alloc (.cells (mgL o).toArray 86)).alloc (.cells (mgL 0).toArray 86)).alloc (.cells (mgL 0).toArray 86))) from ((((Below.refl w.heap.size w).alloc (Nat.le_refl _) _).alloc (by simp) _).alloc (by simp;omega) _).alloc (by simp;omega) _)
  clear hc hx hm ho hge hm30 cs hs h2
  obtain ⟨q,hq⟩ : ∃ q,m / o = q:=⟨_,rfl⟩
  obtain ⟨r,hr⟩ : ∃ r,m % o = r:=⟨_,rfl⟩
  rw [hq,hr] at Cd ⊢
  clear hq hr
  go_enter Tryz.func154,Tryz.ntmps154
  go_wp2_with (first
    | ((with_reducible refine al_zb 86 _ (w.heap.size + 2) ?_ ?_ z86 ?_);(· exact ⟨rfl,rfl⟩);· (simp;done))
    | ((with_reducible refine al_zb 86 _ (w.heap.size + 3) ?_ ?_ z86 ?_);(· exact ⟨rfl,rfl⟩);· (simp;done))
    | ((with_reducible refine ld86 w.heap.size 0 m ?_ ?_ ?_);(· exact ⟨rfl,_,rfl,rfl⟩);· first | exact Hr0.out | exact range_keep Hr0.out HB2.out | exact range_keep Hr0.out HB1.out)
    | ((with_reducible refine ld86 (w.heap.size + 1) 0 o ?_ ?_ ?_);(· exact ⟨rfl,_,rfl,rfl⟩);· first | exact Hr1.out | exact range_keep Hr1.out HB2.out | exact range_keep Hr1.out HB1.out)
    | (go_at_call 146;(with_reducible refine (Hc.out _).mono ?_);rintro e w1 ⟨rfl,hb1⟩;have HB1:=Lib.hid hb1;clear hb1)
    | (go_at_call 159;(with_reducible refine (Cs.out _).mono ?_);rintro e w2 ⟨rfl,hb2⟩;have HB2:=Lib.hid (HB1.out.trans (hb2.mono HB1.out.size));clear hb2)
    | (go_at_call 197;(with_reducible refine (Cd.out _).mono ?_);rintro e w3 ⟨rfl,hb3⟩;have HB3:=Lib.hid (HB2.out.trans (hb3.mono HB2.out.size));clear hb3)
    | ((with_reducible refine st86 (w.heap.size + 2) 0 q ?_ ?_ ?_);(· exact ⟨rfl,_,_,rfl,rfl,rfl⟩);· exact there_keep Ht2.out HB3.out)
    | ((with_reducible refine st86 (w.heap.size + 3) 0 r ?_ ?_ ?_);(· exact ⟨rfl,_,_,rfl,rfl,rfl⟩);· exact World.there_setCells (there_keep Ht3.out HB3.out) _ _ _))
  refine ret_cell_cell Tryz.results154 (w.heap.size + 2) 0 (w.heap.size + 3) 0 rfl rfl q r (range_setk (range_set (there_keep Ht2.out HB3.out) (by rw [mgL_len])) (by omega)) (range_set (World.there_setCells (there_keep Ht3.out HB3.out) _ _ _) (by rw [mgL_len])) rfl ⟨rfl,?_⟩
  exact below_set (below_set (Hb.out.trans (HB3.out.mono Hb.out.size)) (by omega) _ _) (by omega) _ _
theorem divide_all (m o : Nat) (hm : m < bb ^ 29) (ho : o < bb ^ 30) (h0 : 0 < o) (w : World) :
    Calls Tryz.prog 154 #[.agg (mgL m).toArray,.agg (mgL o).toArray] w fun e w'=>e = .returned (.tuple #[.agg (mgL (m / o)).toArray,.agg (mgL (m % o)).toArray])/\Below w.heap.size w w':=by
  have hm30 : m < bb ^ 30:=Nat.lt_of_lt_of_le hm (pow_mono (by omega))
  by_cases h1 : o < bb
  · exact divide_any m o hm30 h1 h0 w
  · by_cases h : m < o
    · rw [Nat.div_eq_of_lt h,Nat.mod_eq_of_lt h]
      exact divide_lt m o hm30 ho h w
    · refine divide_big m o hm ho ?_ (by omega) w
      apply Nat.lt_of_not_le;intro hle
      have:=(lsz_le_iff 1 o).1 hle
      rw [Nat.pow_one] at this;omega
end
end Go.Proofs.YtpbegoflpfdajaaGreatDoor
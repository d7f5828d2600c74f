/- WHAT IS PROVED: contracts of functions of the numbers package and laws for them, used by the last text of this claim. CONDITIONS: stated at each theorem. -/
import Derived.BigFrame
import Derived.Test.YtpbegoflpfdajaaGreatDoorB26
namespace Go.Proofs.YtpbegoflpfdajaaGreatDoor
open Go.RowKit

theorem ret_cc88 {fn : Func} {R : Ending->World->Prop} {a : Act} {w : World} {tm t2 : Nat} (hres : fn.results = #[.cell tm 88,.cell t2 88]) (b o b2 o2 : Nat) (ht : a.tmps.getD tm undef = .pointer (some ⟨b,o,none⟩)) (ht2 : a.tmps.getD t2 undef = .pointer (some ⟨b2,o2,none⟩)) (n : Nat) (s : Bool) (m : Nat) (t : Bool)
    (hc : w.rangeAt b o (sgL n s)) (hc2 : w.rangeAt b2 o2 (sgL m t)) (hdf : a.defers = []) (hR : R (.returned (.tuple #[.agg (sgL n s).toArray,.agg (sgL m t).toArray])) w) : bodyPost Tryz.prog fn R .ret a w:=by
  refine bodyPost_ret (v:=.tuple #[.agg (sgL n s).toArray,.agg (sgL m t).toArray]) ?_ hdf hR
  have h1 : ∀ tmps : Array Value,tmps.getD tm undef = .pointer (some ⟨b,o,none⟩)->tmps.getD t2 undef = .pointer (some ⟨b2,o2,none⟩)->(results fn tmps).run Tryz.prog w = .ok (.tuple #[.agg (sgL n s).toArray,.agg (sgL m t).toArray]) w:=by
    intro tmps ht ht2
    have ht' : tmps[tm]?.getD undef = .pointer (some ⟨b,o,none⟩):=by simpa using ht
    have ht2' : tmps[t2]?.getD undef = .pointer (some ⟨b2,o2,none⟩):=by simpa using ht2
    unfold results
    rw [hres]
    simp [asAddr,ht',ht2',run_loadVar_mid w b o 88 (sgL n s) _ hc Tryz.underlying88 rfl (by rw [sgL_len];exact i88),run_loadVar_mid w b2 o2 88 (sgL m t) _ hc2 Tryz.underlying88 rfl (by rw [sgL_len];exact i88),Result.andThen]
  exact h1 _ ht ht2

structure Sd (w : World) (b q r n2 : Nat) (s1 s2 : Bool) (W : World) : Prop where
  below : Below w.heap.size w W
  t2 : W.there (w.heap.size + 2) 0 31
  t3 : W.there (w.heap.size + 3) 0 31
  c1 : W.cell? ⟨w.heap.size,30,none⟩ = some (.bool s1)
  c2 : W.cell? ⟨w.heap.size + 1,30,none⟩ = some (.bool s2)
  y : W.rangeAt (w.heap.size + 1) 0 (mgL n2)
  r6 : W.rangeAt b 0 (mgL q)
  r7 : W.rangeAt (b + 1) 0 (mgL r)
  t6 : W.there b 0 30
  t7 : W.there (b + 1) 0 30
theorem Sd.keep {w W W' : World} {b q r n2 : Nat} {s1 s2 : Bool} (d : Sd w b q r n2 s1 s2 W) (h : Below W.heap.size W W') : Sd w b q r n2 s1 s2 W' :=
  ⟨d.below.trans (h.mono d.below.size),there_keep d.t2 h,there_keep d.t3 h,cell_keep d.c1 h,cell_keep d.c2 h,range_keep d.y h,range_keep d.r6 h,range_keep d.r7 h,there_keep d.t6 h,there_keep d.t7 h⟩
theorem Sd.drew {w W : World} {b q r n2 : Nat} {s1 s2 : Bool} (d : Sd w b q r n2 s1 s2 W) : Sd w b q r n2 s1 s2 W.drew:=d.keep (Below.refl _ _).drew
theorem Sd.six {w W : World} {b q r n2 : Nat} {s1 s2 : Bool} (d : Sd w b q r n2 s1 s2 W) (hb : w.heap.size + 4 <= b) (q' : Nat) : Sd w b q' r n2 s1 s2 (W.setCells b 0 (mgL q')) :=
  ⟨below_set d.below (by omega) _ _,World.there_setCells d.t2 _ _ _,World.there_setCells d.t3 _ _ _,cell_setk d.c1 (by omega),cell_setk d.c2 (by omega),range_setk d.y (by omega),range_set d.t6 (by rw [mgL_len]),range_setk d.r7 (by omega),World.there_setCells d.t6 _ _ _,World.there_setCells d.t7 _ _ _⟩
theorem Sd.seven {w W : World} {b q r n2 : Nat} {s1 s2 : Bool} (d : Sd w b q r n2 s1 s2 W) (hb : w.heap.size + 4 <= b) (r' : Nat) : Sd w b q r' n2 s1 s2 (W.setCells (b + 1) 0 (mgL r')) :=
  ⟨below_set d.below (by omega) _ _,World.there_setCells d.t2 _ _ _,World.there_setCells d.t3 _ _ _,cell_setk d.c1 (by omega),cell_setk d.c2 (by omega),range_setk d.y (by omega),range_setk d.r6 (by omega),range_set d.t7 (by rw [mgL_len]),World.there_setCells d.t6 _ _ _,World.there_setCells d.t7 _ _ _⟩
theorem nw2_at0 (w : World) (a b : Nat) : (nw2 w a b).rangeAt w.heap.size 0 (mgL a):=range_setk (range_set (gd_there0 w) (by rw [mgL_len])) (by omega)

theorem gld86 {ops : Array Oper} {rest : List Oper} {op : Oper} {a : Act} {w : World} {Q : Exit->Act->World->Prop} (b o : Nat) (n : Nat) (ho : ∃ x,op.op = .load 86 x/\a.eval x = .pointer (some ⟨b,o,none⟩)) (hw : Region.wanted op (yielded ops a.tmps) = true) (hc : w.rangeAt b o (mgL n)) (h : wpList Tryz.prog ops Q rest (a.put op.dst (.agg (mgL n).toArray)) w) : wpList Tryz.prog ops Q (op :: rest) a w :=
  Go.BigFrame.wpList_want hw fun _ hK=>wld86 b o n ho hc (hK _ _ h)
theorem nw2_cell {w : World} {a b k o : Nat} {v : Value} (h : w.cell? ⟨k,o,none⟩ = some v) : ((((w.alloc (.cells (mgL 0).toArray 86)).alloc (.cells (mgL 0).toArray 86)).setCells w.heap.size 0 (mgL a)).setCells (w.heap.size + 1) 0 (mgL b)).cell? ⟨k,o,none⟩ = some v:=cell_keep h (nw2_old w a b)
def sdQ (n1 : Nat) (s1 : Bool) (n2 : Nat) : Nat:=if s1 = true/\n1 % n2 ≠ 0 then n1 / n2 + 1 else n1 / n2
def sdR (n1 : Nat) (s1 : Bool) (n2 : Nat) : Nat:=if s1 = true/\n1 % n2 ≠ 0 then n2 - n1 % n2 else n1 % n2
def sdS (n1 : Nat) (s1 : Bool) (n2 : Nat) (s2 : Bool) : Bool:=(s1 != s2) && !decide (sdQ n1 s1 n2 = 0)

set_option maxHeartbeats 8000000 in
set_option maxRecDepth 20000 in
theorem divS_any (n1 : Nat) (s1 : Bool) (n2 : Nat) (s2 : Bool) (h1 : n1 < bb ^ 28) (h2 : n2 < bb ^ 30) (h0 : 0 < n2) (w : World) :
    Calls Tryz.prog 87 #[.agg (sgL n1 s1).toArray,.agg (sgL n2 s2).toArray] w fun e w'=>e = .returned (.tuple #[.agg (sgL (sdQ n1 s1 n2) (sdS n1 s1 n2 s2)).toArray,.agg (sgL (sdR n1 s1 n2) false).toArray])/\Below w.heap.size w w':=by
  have hq29 : n1 / n2 + 1 < bb ^ 29:=by
    have:=Nat.div_le_self n1 n2
    have h : bb ^ 28 * 2 <= bb ^ 29:=by rw [Nat.pow_succ bb 28];exact Nat.mul_le_mul_left _ (by unfold bb;omega)
    have:=bb_pow_pos 28
    omega
  have hle : bb ^ 29 <= bb ^ 30:=pow_mono (by omega)
  have hr:=Nat.mod_lt n1 h0
  have hQ : sdQ n1 s1 n2 < bb ^ 30:=by unfold sdQ;split <;> omega
  have hR : sdR n1 s1 n2 < bb ^ 30:=by unfold sdR;split <;> omega
  have C1:=Lib.hid (fun w=>divide_all n1 n2 (lt29 h1) h2 h0 w)
  have cn1:=fun w=>number_any (sdQ n1 s1 n2) (s1 != s2) hQ w
  rw [show ((s1 != s2) && !decide (sdQ n1 s1 n2 = 0)) = sdS n1 s1 n2 s2 from rfl] at cn1
  have cn2:=fun w=>number_any (sdR n1 s1 n2) false hR w
  change ∀ w,Calls Tryz.prog 93 #[.agg (mgL (sdR n1 s1 n2)).toArray,.bool false] w (fun e w'=>e = .returned (.agg (sgL (sdR n1 s1 n2) false).toArray)/\Below w.heap.size w w') at cn2
  have Cz:=Lib.hid (fun w=>isZero_any (n1 % n2) (by omega) w)
  have cp:=fun w=>plus_any (n1 / n2) 1 (by omega) w
  have cm:=fun w=>minus_any n2 (n1 % n2) (by omega) w
  have hsQ : sdQ n1 s1 n2 = if s1 = true/\n1 % n2 ≠ 0 then n1 / n2 + 1 else n1 / n2:=rfl
  have hsR : sdR n1 s1 n2 = if s1 = true/\n1 % n2 ≠ 0 then n2 - n1 % n2 else n1 % n2:=rfl
  generalize sdS n1 s1 n2 s2 = sg at *
  generalize sdQ n1 s1 n2 = Q at *
  generalize sdR n1 s1 n2 = R at *
  generalize n1 / n2 = q at *
  generalize n1 % n2 = r at *
  have Cn1:=Lib.hid cn1;have Cn2:=Lib.hid cn2;have Cp:=Lib.hid cp;have Cm:=Lib.hid cm
  have hr0 : ((((w.alloc (.cells (sgL n1 s1).toArray 88)).alloc (.cells (sgL n2 s2).toArray 88)).alloc (.cells (sgL 0 false).toArray 88)).alloc (.cells (sgL 0 false).toArray 88)).rangeAt w.heap.size 0 (sgL n1 s1):=World.rangeAt_alloc (World.rangeAt_alloc (World.rangeAt_alloc (range_new w _ 88) _) _) _
  have hr1 : ((((w.alloc (.cells (sgL n1 s1).toArray 88)).alloc (.cells (sgL n2 s2).toArray 88)).alloc (.cells (sgL 0 false).toArray 88)).alloc (.cells (sgL 0 false).toArray 88)).rangeAt (w.heap.size + 1) 0 (sgL n2 s2):=World.rangeAt_alloc (World.rangeAt_alloc (range_at (by simp) _ 88) _) _
  have Hr0:=Lib.hid (range_sg hr0);have Hr1:=Lib.hid (range_sg hr1)
  have Ht2:=Lib.hid (show ((((w.alloc (.cells (sgL n1 s1).toArray 88)).alloc (.cells (sgL n2 s2).toArray 88)).alloc (.cells (sgL 0 false).toArray 88)).alloc (.cells (sgL 0 false).toArray 88)).there (w.heap.size + 2) 0 31 from World.there_alloc (there_at (by simp) _ 88 (by rw [sgL_len])) _)
  have Ht3:=Lib.hid (show ((((w.alloc (.cells (sgL n1 s1).toArray 88)).alloc (.cells (sgL n2 s2).toArray 88)).alloc (.cells (sgL 0 false).toArray 88)).alloc (.cells (sgL 0 false).toArray 88)).there (w.heap.size + 3) 0 31 from there_at (by simp) _ 88 (by rw [sgL_len]))
  have Hb:=Lib.hid (show Below w.heap.size w ((((w.alloc (.cells (sgL n1 s1).toArray 88)).alloc (.cells (sgL n2 s2).toArray 88)).alloc (.cells (sgL 0 false).toArray 88)).alloc (.cells (sgL 0 false).toArray 88)) from ((((Below.refl w.heap.size w).alloc (Nat.le_refl _) _).alloc (by simp) _).alloc (by simp;omega) _).alloc (by simp;omega) _)
  have Hsz:=Lib.hid (show w.heap.size + 4 <= ((((w.alloc (.cells (sgL n1 s1).toArray 88)).alloc (.cells (sgL n2 s2).toArray 88)).alloc (.cells (sgL 0 false).toArray 88)).alloc (.cells (sgL 0 false).toArray 88)).heap.size by simp)
  clear cn1 cn2 cp cm h1 h2 h0 hq29 hle hr hQ hR hr0 hr1
  cases s1 with
  | false =>
    rw [show (false != s2) = s2 by cases s2 <;> rfl] at Cn1
    rw [if_neg (by simp)] at hsQ hsR
    subst hsQ;subst hsR
    go_enter Tryz.func87,Tryz.ntmps87
    go_wp2_with (first
      | ((with_reducible refine al_zb 88 _ (w.heap.size + 2) ?_ ?_ z88 ?_);(· exact ⟨rfl,rfl⟩);· (simp;done))
      | ((with_reducible refine al_zb 88 _ (w.heap.size + 3) ?_ ?_ z88 ?_);(· exact ⟨rfl,rfl⟩);· (simp;done))
      | ((with_reducible refine ld86 w.heap.size 0 n1 ?_ ?_ ?_);(· exact ⟨rfl,_,rfl,rfl⟩);· exact Hr0.out.1)
      | ((with_reducible refine ld86 (w.heap.size + 1) 0 n2 ?_ ?_ ?_);(· exact ⟨rfl,_,rfl,rfl⟩);· exact Hr1.out.1)
      | (go_at_call 154;(with_reducible refine (C1.out _).mono ?_);rintro e w3 ⟨rfl,hb3⟩;have HB3:=Lib.hid (hb3.trans ((nw2_old w3 Q R).mono hb3.size));have hz3:=Lib.hid (Nat.le_trans Hsz.out hb3.size);have hcc:=nw2_cell (a:=Q) (b:=R) (cell_keep Hr0.out.2 hb3);clear hb3)
      | ((with_reducible refine al_zb 86 _ w3.heap.size ?_ ?_ z86 ?_);(· exact ⟨rfl,rfl⟩);· rfl)
      | ((with_reducible refine al_zb 86 _ (w3.heap.size + 1) ?_ ?_ z86 ?_);(· exact ⟨rfl,rfl⟩);· (simp;done))
      | ((with_reducible refine st86 w3.heap.size 0 Q ?_ ?_ ?_);(· exact ⟨rfl,_,_,rfl,rfl,rfl⟩);· exact gd_there0 w3)
      | ((with_reducible refine st86 (w3.heap.size + 1) 0 R ?_ ?_ ?_);(· exact ⟨rfl,_,_,rfl,rfl,rfl⟩);· exact World.there_setCells (gd_there1 w3) _ _ _))
    try simp only [Act.put,List.getElem_toArray,List.getElem_cons_succ,List.getElem_cons_zero,List.setIfInBounds_toArray,List.set_cons_zero,List.set_cons_succ]
    have h4:=hz3.out
    have D:=Lib.hid (show Sd w w3.heap.size Q R n2 false s2 (nw2 w3 Q R) from ⟨Hb.out.trans (HB3.out.mono Hb.out.size),there_keep Ht2.out HB3.out,there_keep Ht3.out HB3.out,cell_keep Hr0.out.2 HB3.out,cell_keep Hr1.out.2 HB3.out,range_keep Hr1.out.1 HB3.out,nw2_at0 w3 Q R,nw2_at1 w3 Q R,World.there_setCells (World.there_setCells (gd_there0 w3) _ _ _) _ _ _,World.there_setCells (World.there_setCells (gd_there1 w3) _ _ _) _ _ _⟩)
    refine wp_region_held_drew (S:=(fun w'=>Below w.heap.size w w'/\w'.rangeAt w3.heap.size 0 (mgL Q)/\w'.rangeAt (w3.heap.size + 1) 0 (mgL R)/\w'.cell? ⟨w.heap.size,30,none⟩ = some (.bool false)/\w'.cell? ⟨w.heap.size + 1,30,none⟩ = some (.bool s2)/\w'.there (w.heap.size + 2) 0 31/\w'.there (w.heap.size + 3) 0 31)) (by kernel_rfl) ?_ (fun hH=>?_)
    · exact ⟨D.out.drew.below,D.out.drew.r6,D.out.drew.r7,D.out.drew.c1,D.out.drew.c2,D.out.drew.t2,D.out.drew.t3⟩
    try dsimp only at hH
    refine wpAnyH_take (i:=0) (v:=(.agg (mgL Q).toArray)) rfl (by kernel_rfl) (by kernel_rfl) (by kernel_rfl) (fun _ _ _ h=>h) (yld86 w3.heap.size 0 Q rfl ⟨_,rfl,rfl⟩ (fun wz hz=>hz.2.1)) hH ?_
    try simp only [Act.put,List.getElem_toArray,List.getElem_cons_zero,List.setIfInBounds_toArray,List.set_cons_zero,List.set_cons_succ]
    refine wpAnyH_take (i:=1) (v:=(.pointer (some ⟨w.heap.size,30,none⟩))) rfl (by kernel_rfl) (by kernel_rfl) (by kernel_rfl) (fun _ _ _ h=>h) (Or.inl ⟨by rfl,fun wz hz=>by skip;go_simp⟩) hH ?_
    try simp only [Act.put,List.getElem_toArray,List.getElem_cons_succ,List.getElem_cons_zero,List.setIfInBounds_toArray,List.set_cons_zero,List.set_cons_succ]
    refine wpAnyH_take (i:=2) (v:=(.bool false)) rfl (by kernel_rfl) (by kernel_rfl) (by kernel_rfl) (fun _ _ _ h=>h) (Or.inl ⟨by rfl,fun wz hz=>by have hc:=hz.2.2.2.1;go_simp⟩) hH ?_
    try simp only [Act.put,List.getElem_toArray,List.getElem_cons_succ,List.getElem_cons_zero,List.setIfInBounds_toArray,List.set_cons_zero,List.set_cons_succ]
    refine wpAnyH_take (i:=3) (v:=(.pointer (some ⟨w.heap.size + 1,30,none⟩))) rfl (by kernel_rfl) (by kernel_rfl) (by kernel_rfl) (fun _ _ _ h=>h) (Or.inl ⟨by rfl,fun wz hz=>by skip;go_simp⟩) hH ?_
    try simp only [Act.put,List.getElem_toArray,List.getElem_cons_succ,List.getElem_cons_zero,List.setIfInBounds_toArray,List.set_cons_zero,List.set_cons_succ]
    refine wpAnyH_take (i:=4) (v:=(.bool s2)) rfl (by kernel_rfl) (by kernel_rfl) (by kernel_rfl) (fun _ _ _ h=>h) (Or.inl ⟨by rfl,fun wz hz=>by have hc:=hz.2.2.2.2.1;go_simp⟩) hH ?_
    try simp only [Act.put,List.getElem_toArray,List.getElem_cons_succ,List.getElem_cons_zero,List.setIfInBounds_toArray,List.set_cons_zero,List.set_cons_succ]
    refine wpAnyH_take (i:=5) (v:=(.bool (s2))) rfl (by kernel_rfl) (by kernel_rfl) (by kernel_rfl) (fun _ _ _ h=>h) (Or.inl ⟨by rfl,fun wz hz=>by skip;go_simp⟩) hH ?_
    try simp only [Act.put,List.getElem_toArray,List.getElem_cons_succ,List.getElem_cons_zero,List.setIfInBounds_toArray,List.set_cons_zero,List.set_cons_succ]
    refine wpAnyH_take (i:=7) (v:=(.agg (mgL R).toArray)) rfl (by kernel_rfl) (by kernel_rfl) (by kernel_rfl) (fun _ _ _ h=>h) (yld86 (w3.heap.size + 1) 0 R rfl ⟨_,rfl,rfl⟩ (fun wz hz=>hz.2.2.1)) hH ?_
    try simp only [Act.put,List.getElem_toArray,List.getElem_cons_succ,List.getElem_cons_zero,List.setIfInBounds_toArray,List.set_cons_zero,List.set_cons_succ]
    refine wpAnyH_ready (rs:=[6]) (by kernel_rfl) (by simp) ?_
    refine AllReadyH.cons rfl (fun K hK=>?_) AllReadyH.nil
    simp only [List.getElem_toArray,List.getElem_cons_succ,List.getElem_cons_zero]
    rw [if_pos (by rfl)]
    go_simp
    refine (Cn1.out _).mono ?_;rintro e w1 ⟨rfl,hb1⟩
    try simp only []
    refine hK.out _ _ ?_ (fun hH1=>?_)
    · exact ⟨(hH.1).trans (hb1.mono (hH.1).size),range_keep hH.2.1 hb1,range_keep hH.2.2.1 hb1,cell_keep hH.2.2.2.1 hb1,cell_keep hH.2.2.2.2.1 hb1,there_keep hH.2.2.2.2.2.1 hb1,there_keep hH.2.2.2.2.2.2 hb1⟩
    clear hK K
    try simp only [Act.put,List.getElem_toArray,List.getElem_cons_succ,List.getElem_cons_zero,List.setIfInBounds_toArray,List.set_cons_zero,List.set_cons_succ]
    refine wpAnyH_ready (rs:=[8]) (by kernel_rfl) (by simp) ?_
    refine AllReadyH.cons rfl (fun K hK=>?_) AllReadyH.nil
    simp only [List.getElem_toArray,List.getElem_cons_succ,List.getElem_cons_zero]
    rw [if_pos (by rfl)]
    go_simp
    refine (Cn2.out _).mono ?_;rintro e w2 ⟨rfl,hb2⟩
    try simp only []
    refine hK.out _ _ ?_ (fun hH2=>?_)
    · exact ⟨(hH1.1).trans (hb2.mono (hH1.1).size),range_keep hH1.2.1 hb2,range_keep hH1.2.2.1 hb2,cell_keep hH1.2.2.2.1 hb2,cell_keep hH1.2.2.2.2.1 hb2,there_keep hH1.2.2.2.2.2.1 hb2,there_keep hH1.2.2.2.2.2.2 hb2⟩
    clear hK K
    try simp only [Act.put,List.getElem_toArray,List.getElem_cons_succ,List.getElem_cons_zero,List.setIfInBounds_toArray,List.set_cons_zero,List.set_cons_succ]
    refine wpAnyH_ready (rs:=[9]) (by kernel_rfl) (by simp) ?_
    refine AllReadyH.cons rfl (fun K hK=>?_) AllReadyH.nil
    simp only [List.getElem_toArray,List.getElem_cons_succ,List.getElem_cons_zero]
    rw [if_pos (by rfl)]
    with_reducible refine wst88 (w.heap.size + 2) 0 Q sg ?_ hH2.2.2.2.2.2.1 ?_
    · exact ⟨_,_,rfl,rfl,rfl⟩
    refine hK.out _ _ ?_ (fun hH3=>?_)
    · exact ⟨below_set hH2.1 (by omega) _ _,range_setk hH2.2.1 (by first | trivial | omega),range_setk hH2.2.2.1 (by first | trivial | omega),cell_setk hH2.2.2.2.1 (by first | trivial | omega),cell_setk hH2.2.2.2.2.1 (by first | trivial | omega),there_setk hH2.2.2.2.2.2.1 (by first | trivial | omega),there_setk hH2.2.2.2.2.2.2 (by first | trivial | omega)⟩
    clear hK K
    try simp only [Act.put]
    refine wpAnyH_ready (rs:=[10]) (by kernel_rfl) (by simp) ?_
    refine AllReadyH.cons rfl (fun K hK=>?_) AllReadyH.nil
    simp only [List.getElem_toArray,List.getElem_cons_succ,List.getElem_cons_zero]
    rw [if_pos (by rfl)]
    with_reducible refine wst88 (w.heap.size + 3) 0 R false ?_ hH3.2.2.2.2.2.2 ?_
    · exact ⟨_,_,rfl,rfl,rfl⟩
    refine hK.out _ _ ?_ (fun hH4=>?_)
    · exact ⟨below_set hH3.1 (by omega) _ _,range_setk hH3.2.1 (by first | trivial | omega),range_setk hH3.2.2.1 (by first | trivial | omega),cell_setk hH3.2.2.2.1 (by first | trivial | omega),cell_setk hH3.2.2.2.2.1 (by first | trivial | omega),there_setk hH3.2.2.2.2.2.1 (by first | trivial | omega),there_setk hH3.2.2.2.2.2.2 (by first | trivial | omega)⟩
    clear hK K
    try simp only [Act.put]
    refine wpAnyH_done (by kernel_rfl) ?_ _
    go_wp2
    exact ret_cc88 Tryz.results87 (w.heap.size + 2) 0 (w.heap.size + 3) 0 rfl rfl Q sg R false (range_setk (range_set hH2.2.2.2.2.2.1 (by rw [sgL_len])) (by omega)) (range_set hH3.2.2.2.2.2.2 (by rw [sgL_len])) rfl ⟨rfl,hH4.1⟩
  | true =>
    rw [show (true != s2) = !s2 by cases s2 <;> rfl] at Cn1
    by_cases hz : r = 0
    · rw [if_neg (by simp [hz])] at hsQ hsR
      rw [show decide (r = 0) = true by simpa using hz] at Cz
      subst hsQ;subst hsR
      clear hz
      go_enter Tryz.func87,Tryz.ntmps87
      go_wp2_with (first
        | ((with_reducible refine al_zb 88 _ (w.heap.size + 2) ?_ ?_ z88 ?_);(· exact ⟨rfl,rfl⟩);· (simp;done))
        | ((with_reducible refine al_zb 88 _ (w.heap.size + 3) ?_ ?_ z88 ?_);(· exact ⟨rfl,rfl⟩);· (simp;done))
        | ((with_reducible refine ld86 w.heap.size 0 n1 ?_ ?_ ?_);(· exact ⟨rfl,_,rfl,rfl⟩);· exact Hr0.out.1)
        | ((with_reducible refine ld86 (w.heap.size + 1) 0 n2 ?_ ?_ ?_);(· exact ⟨rfl,_,rfl,rfl⟩);· exact Hr1.out.1)
        | (go_at_call 154;(with_reducible refine (C1.out _).mono ?_);rintro e w3 ⟨rfl,hb3⟩;have HB3:=Lib.hid (hb3.trans ((nw2_old w3 Q R).mono hb3.size));have hz3:=Lib.hid (Nat.le_trans Hsz.out hb3.size);have hcc:=nw2_cell (a:=Q) (b:=R) (cell_keep Hr0.out.2 hb3);clear hb3)
        | ((with_reducible refine al_zb 86 _ w3.heap.size ?_ ?_ z86 ?_);(· exact ⟨rfl,rfl⟩);· rfl)
        | ((with_reducible refine al_zb 86 _ (w3.heap.size + 1) ?_ ?_ z86 ?_);(· exact ⟨rfl,rfl⟩);· (simp;done))
        | ((with_reducible refine st86 w3.heap.size 0 Q ?_ ?_ ?_);(· exact ⟨rfl,_,_,rfl,rfl,rfl⟩);· exact gd_there0 w3)
        | ((with_reducible refine st86 (w3.heap.size + 1) 0 R ?_ ?_ ?_);(· exact ⟨rfl,_,_,rfl,rfl,rfl⟩);· exact World.there_setCells (gd_there1 w3) _ _ _)
        | ((with_reducible refine gld86 (w3.heap.size + 1) 0 R ?_ ?_ ?_ ?_);(· exact ⟨_,rfl,rfl⟩);(· rfl);· exact nw2_at1 w3 Q R)
        | (go_at_call 86;(with_reducible refine (Cz.out _).mono ?_);rintro e w4 ⟨rfl,hb4⟩;have HB4:=Lib.hid (show Below (nw2 w3 Q R).heap.size (nw2 w3 Q R) w4 from hb4);clear hb4))
      try simp only [Act.put,List.getElem_toArray,List.getElem_cons_succ,List.getElem_cons_zero,List.setIfInBounds_toArray,List.set_cons_zero,List.set_cons_succ]
      have h4:=hz3.out
      have D:=Lib.hid (show Sd w w3.heap.size Q R n2 true s2 (nw2 w3 Q R) from ⟨Hb.out.trans (HB3.out.mono Hb.out.size),there_keep Ht2.out HB3.out,there_keep Ht3.out HB3.out,cell_keep Hr0.out.2 HB3.out,cell_keep Hr1.out.2 HB3.out,range_keep Hr1.out.1 HB3.out,nw2_at0 w3 Q R,nw2_at1 w3 Q R,World.there_setCells (World.there_setCells (gd_there0 w3) _ _ _) _ _ _,World.there_setCells (World.there_setCells (gd_there1 w3) _ _ _) _ _ _⟩)
      have E:=Lib.hid (D.out.keep HB4.out)
      refine wp_region_held_drew (S:=(fun w'=>Below w.heap.size w w'/\w'.rangeAt w3.heap.size 0 (mgL Q)/\w'.rangeAt (w3.heap.size + 1) 0 (mgL R)/\w'.cell? ⟨w.heap.size,30,none⟩ = some (.bool true)/\w'.cell? ⟨w.heap.size + 1,30,none⟩ = some (.bool s2)/\w'.there (w.heap.size + 2) 0 31/\w'.there (w.heap.size + 3) 0 31)) (by kernel_rfl) ?_ (fun hH=>?_)
      · exact ⟨E.out.drew.below,E.out.drew.r6,E.out.drew.r7,E.out.drew.c1,E.out.drew.c2,E.out.drew.t2,E.out.drew.t3⟩
      try dsimp only at hH
      refine wpAnyH_take (i:=0) (v:=(.agg (mgL Q).toArray)) rfl (by kernel_rfl) (by kernel_rfl) (by kernel_rfl) (fun _ _ _ h=>h) (yld86 w3.heap.size 0 Q rfl ⟨_,rfl,rfl⟩ (fun wz hz=>hz.2.1)) hH ?_
      try simp only [Act.put,List.getElem_toArray,List.getElem_cons_zero,List.setIfInBounds_toArray,List.set_cons_zero,List.set_cons_succ]
      refine wpAnyH_take (i:=1) (v:=(.pointer (some ⟨w.heap.size,30,none⟩))) rfl (by kernel_rfl) (by kernel_rfl) (by kernel_rfl) (fun _ _ _ h=>h) (Or.inl ⟨by rfl,fun wz hz=>by skip;go_simp⟩) hH ?_
      try simp only [Act.put,List.getElem_toArray,List.getElem_cons_succ,List.getElem_cons_zero,List.setIfInBounds_toArray,List.set_cons_zero,List.set_cons_succ]
      refine wpAnyH_take (i:=2) (v:=(.bool true)) rfl (by kernel_rfl) (by kernel_rfl) (by kernel_rfl) (fun _ _ _ h=>h) (Or.inl ⟨by rfl,fun wz hz=>by have hc:=hz.2.2.2.1;go_simp⟩) hH ?_
      try simp only [Act.put,List.getElem_toArray,List.getElem_cons_succ,List.getElem_cons_zero,List.setIfInBounds_toArray,List.set_cons_zero,List.set_cons_succ]
      refine wpAnyH_take (i:=3) (v:=(.pointer (some ⟨w.heap.size + 1,30,none⟩))) rfl (by kernel_rfl) (by kernel_rfl) (by kernel_rfl) (fun _ _ _ h=>h) (Or.inl ⟨by rfl,fun wz hz=>by skip;go_simp⟩) hH ?_
      try simp only [Act.put,List.getElem_toArray,List.getElem_cons_succ,List.getElem_cons_zero,List.setIfInBounds_toArray,List.set_cons_zero,List.set_cons_succ]
      refine wpAnyH_take (i:=4) (v:=(.bool s2)) rfl (by kernel_rfl) (by kernel_rfl) (by kernel_rfl) (fun _ _ _ h=>h) (Or.inl ⟨by rfl,fun wz hz=>by have hc:=hz.2.2.2.2.1;go_simp⟩) hH ?_
      try simp only [Act.put,List.getElem_toArray,List.getElem_cons_succ,List.getElem_cons_zero,List.setIfInBounds_toArray,List.set_cons_zero,List.set_cons_succ]
      refine wpAnyH_take (i:=5) (v:=(.bool (!s2))) rfl (by kernel_rfl) (by kernel_rfl) (by kernel_rfl) (fun _ _ _ h=>h) (Or.inl ⟨by rfl,fun wz hz=>by skip;go_simp⟩) hH ?_
      try simp only [Act.put,List.getElem_toArray,List.getElem_cons_succ,List.getElem_cons_zero,List.setIfInBounds_toArray,List.set_cons_zero,List.set_cons_succ]
      refine wpAnyH_take (i:=7) (v:=(.agg (mgL R).toArray)) rfl (by kernel_rfl) (by kernel_rfl) (by kernel_rfl) (fun _ _ _ h=>h) (yld86 (w3.heap.size + 1) 0 R rfl ⟨_,rfl,rfl⟩ (fun wz hz=>hz.2.2.1)) hH ?_
      try simp only [Act.put,List.getElem_toArray,List.getElem_cons_succ,List.getElem_cons_zero,List.setIfInBounds_toArray,List.set_cons_zero,List.set_cons_succ]
      refine wpAnyH_ready (rs:=[6]) (by kernel_rfl) (by simp) ?_
      refine AllReadyH.cons rfl (fun K hK=>?_) AllReadyH.nil
      simp only [List.getElem_toArray,List.getElem_cons_succ,List.getElem_cons_zero]
      rw [if_pos (by rfl)]
      go_simp
      refine (Cn1.out _).mono ?_;rintro e w1 ⟨rfl,hb1⟩
      try simp only []
      refine hK.out _ _ ?_ (fun hH1=>?_)
      · exact ⟨(hH.1).trans (hb1.mono (hH.1).size),range_keep hH.2.1 hb1,range_keep hH.2.2.1 hb1,cell_keep hH.2.2.2.1 hb1,cell_keep hH.2.2.2.2.1 hb1,there_keep hH.2.2.2.2.2.1 hb1,there_keep hH.2.2.2.2.2.2 hb1⟩
      clear hK K
      try simp only [Act.put,List.getElem_toArray,List.getElem_cons_succ,List.getElem_cons_zero,List.setIfInBounds_toArray,List.set_cons_zero,List.set_cons_succ]
      refine wpAnyH_ready (rs:=[8]) (by kernel_rfl) (by simp) ?_
      refine AllReadyH.cons rfl (fun K hK=>?_) AllReadyH.nil
      simp only [List.getElem_toArray,List.getElem_cons_succ,List.getElem_cons_zero]
      rw [if_pos (by rfl)]
      go_simp
      refine (Cn2.out _).mono ?_;rintro e w2 ⟨rfl,hb2⟩
      try simp only []
      refine hK.out _ _ ?_ (fun hH2=>?_)
      · exact ⟨(hH1.1).trans (hb2.mono (hH1.1).size),range_keep hH1.2.1 hb2,range_keep hH1.2.2.1 hb2,cell_keep hH1.2.2.2.1 hb2,cell_keep hH1.2.2.2.2.1 hb2,there_keep hH1.2.2.2.2.2.1 hb2,there_keep hH1.2.2.2.2.2.2 hb2⟩
      clear hK K
      try simp only [Act.put,List.getElem_toArray,List.getElem_cons_succ,List.getElem_cons_zero,List.setIfInBounds_toArray,List.set_cons_zero,List.set_cons_succ]
      refine wpAnyH_ready (rs:=[9]) (by kernel_rfl) (by simp) ?_
      refine AllReadyH.cons rfl (fun K hK=>?_) AllReadyH.nil
      simp only [List.getElem_toArray,List.getElem_cons_succ,List.getElem_cons_zero]
      rw [if_pos (by rfl)]
      with_reducible refine wst88 (w.heap.size + 2) 0 Q sg ?_ hH2.2.2.2.2.2.1 ?_
      · exact ⟨_,_,rfl,rfl,rfl⟩
      refine hK.out _ _ ?_ (fun hH3=>?_)
      · exact ⟨below_set hH2.1 (by omega) _ _,range_setk hH2.2.1 (by first | trivial | omega),range_setk hH2.2.2.1 (by first | trivial | omega),cell_setk hH2.2.2.2.1 (by first | trivial | omega),cell_setk hH2.2.2.2.2.1 (by first | trivial | omega),there_setk hH2.2.2.2.2.2.1 (by first | trivial | omega),there_setk hH2.2.2.2.2.2.2 (by first | trivial | omega)⟩
      clear hK K
      try simp only [Act.put]
      refine wpAnyH_ready (rs:=[10]) (by kernel_rfl) (by simp) ?_
      refine AllReadyH.cons rfl (fun K hK=>?_) AllReadyH.nil
      simp only [List.getElem_toArray,List.getElem_cons_succ,List.getElem_cons_zero]
      rw [if_pos (by rfl)]
      with_reducible refine wst88 (w.heap.size + 3) 0 R false ?_ hH3.2.2.2.2.2.2 ?_
      · exact ⟨_,_,rfl,rfl,rfl⟩
      refine hK.out _ _ ?_ (fun hH4=>?_)
      · exact ⟨below_set hH3.1 (by omega) _ _,range_setk hH3.2.1 (by first | trivial | omega),range_setk hH3.2.2.1 (by first | trivial | omega),cell_setk hH3.2.2.2.1 (by first | trivial | omega),cell_setk hH3.2.2.2.2.1 (by first | trivial | omega),there_setk hH3.2.2.2.2.2.1 (by first | trivial | omega),there_setk hH3.2.2.2.2.2.2 (by first | trivial | omega)⟩
      clear hK K
      try simp only [Act.put]
      refine wpAnyH_done (by kernel_rfl) ?_ _
      go_wp2
      exact ret_cc88 Tryz.results87 (w.heap.size + 2) 0 (w.heap.size + 3) 0 rfl rfl Q sg R false (range_setk (range_set hH2.2.2.2.2.2.1 (by rw [sgL_len])) (by omega)) (range_set hH3.2.2.2.2.2.2 (by rw [sgL_len])) rfl ⟨rfl,hH4.1⟩
    · rw [if_pos ⟨rfl,hz⟩] at hsQ hsR
      rw [show decide (r = 0) = false by simpa using hz] at Cz
      rw [<- hsQ] at Cp
      rw [<- hsR] at Cm
      clear hz hsQ hsR
      have C9:=Lib.hid small_one
      go_enter Tryz.func87,Tryz.ntmps87
      go_wp2_with (first
        | ((with_reducible refine al_zb 88 _ (w.heap.size + 2) ?_ ?_ z88 ?_);(· exact ⟨rfl,rfl⟩);· (simp;done))
        | ((with_reducible refine al_zb 88 _ (w.heap.size + 3) ?_ ?_ z88 ?_);(· exact ⟨rfl,rfl⟩);· (simp;done))
        | ((with_reducible refine ld86 w.heap.size 0 n1 ?_ ?_ ?_);(· exact ⟨rfl,_,rfl,rfl⟩);· exact Hr0.out.1)
        | ((with_reducible refine ld86 (w.heap.size + 1) 0 n2 ?_ ?_ ?_);(· exact ⟨rfl,_,rfl,rfl⟩);· exact Hr1.out.1)
        | (go_at_call 154;(with_reducible refine (C1.out _).mono ?_);rintro e w3 ⟨rfl,hb3⟩;have HB3:=Lib.hid (hb3.trans ((nw2_old w3 q r).mono hb3.size));have hz3:=Lib.hid (Nat.le_trans Hsz.out hb3.size);have hcc:=nw2_cell (a:=q) (b:=r) (cell_keep Hr0.out.2 hb3);clear hb3)
        | ((with_reducible refine al_zb 86 _ w3.heap.size ?_ ?_ z86 ?_);(· exact ⟨rfl,rfl⟩);· rfl)
        | ((with_reducible refine al_zb 86 _ (w3.heap.size + 1) ?_ ?_ z86 ?_);(· exact ⟨rfl,rfl⟩);· (simp;done))
        | ((with_reducible refine st86 w3.heap.size 0 q ?_ ?_ ?_);(· exact ⟨rfl,_,_,rfl,rfl,rfl⟩);· exact gd_there0 w3)
        | ((with_reducible refine st86 (w3.heap.size + 1) 0 r ?_ ?_ ?_);(· exact ⟨rfl,_,_,rfl,rfl,rfl⟩);· exact World.there_setCells (gd_there1 w3) _ _ _)
        | ((with_reducible refine gld86 (w3.heap.size + 1) 0 r ?_ ?_ ?_ ?_);(· exact ⟨_,rfl,rfl⟩);(· rfl);· exact nw2_at1 w3 q r)
        | (go_at_call 86;(with_reducible refine (Cz.out _).mono ?_);rintro e w4 ⟨rfl,hb4⟩;have HB4:=Lib.hid (show Below (nw2 w3 q r).heap.size (nw2 w3 q r) w4 from hb4);clear hb4))
      try simp only [Act.put,List.getElem_toArray,List.getElem_cons_succ,List.getElem_cons_zero,List.setIfInBounds_toArray,List.set_cons_zero,List.set_cons_succ]
      have h4:=hz3.out
      have D:=Lib.hid (show Sd w w3.heap.size q r n2 true s2 (nw2 w3 q r) from ⟨Hb.out.trans (HB3.out.mono Hb.out.size),there_keep Ht2.out HB3.out,there_keep Ht3.out HB3.out,cell_keep Hr0.out.2 HB3.out,cell_keep Hr1.out.2 HB3.out,range_keep Hr1.out.1 HB3.out,nw2_at0 w3 q r,nw2_at1 w3 q r,World.there_setCells (World.there_setCells (gd_there0 w3) _ _ _) _ _ _,World.there_setCells (World.there_setCells (gd_there1 w3) _ _ _) _ _ _⟩)
      have E:=Lib.hid ((D.out.keep HB4.out).drew)
      refine wp_region_drew (by kernel_rfl) ?_
      refine wpAny_ready (rs:=[0,1]) (by kernel_rfl) (by simp) ?_
      refine AllReady.cons rfl (fun K hK=>?_) ?_
      · simp only [List.getElem_toArray,List.getElem_cons_zero]
        rw [if_pos (by rfl)]
        refine wld86 w3.heap.size 0 q ⟨_,rfl,rfl⟩ E.out.r6 ?_
        refine hK _ _ ?_;clear hK K
        try simp only [Act.put,List.setIfInBounds_toArray,List.set_cons_zero,List.set_cons_succ]
        refine wpAny_ready (rs:=[1]) (by kernel_rfl) (by simp) ?_
        refine AllReady.cons rfl (fun K hK=>?_) AllReady.nil
        simp only [List.getElem_toArray,List.getElem_cons_succ,List.getElem_cons_zero]
        rw [if_pos (by rfl)]
        go_simp
        refine (C9.out _).mono ?_;rintro e w5 ⟨rfl,hb5⟩
        have HB5:=Lib.hid hb5;clear hb5
        try simp only []
        refine hK _ _ ?_;clear hK K
        try simp only [Act.put,List.getElem_toArray,List.getElem_cons_succ,List.getElem_cons_zero,List.setIfInBounds_toArray,List.set_cons_zero,List.set_cons_succ]
        refine wpAny_ready (rs:=[2]) (by kernel_rfl) (by simp) ?_
        refine AllReady.cons rfl (fun K hK=>?_) AllReady.nil
        simp only [List.getElem_toArray,List.getElem_cons_succ,List.getElem_cons_zero]
        rw [if_pos (by rfl)]
        go_simp
        refine (Cp.out _).mono ?_;rintro e w6 ⟨rfl,hb6⟩
        have HB6:=Lib.hid (HB5.out.trans (hb6.mono HB5.out.size));clear hb6
        try simp only []
        refine hK _ _ ?_;clear hK K
        try simp only [Act.put,List.getElem_toArray,List.getElem_cons_succ,List.getElem_cons_zero,List.setIfInBounds_toArray,List.set_cons_zero,List.set_cons_succ]
        refine wpAny_ready (rs:=[3]) (by kernel_rfl) (by simp) ?_
        refine AllReady.cons rfl (fun K hK=>?_) AllReady.nil
        simp only [List.getElem_toArray,List.getElem_cons_succ,List.getElem_cons_zero]
        rw [if_pos (by rfl)]
        refine wst86 w3.heap.size 0 Q ⟨_,_,rfl,rfl,rfl⟩ (E.out.keep HB6.out).t6 ?_
        refine hK _ _ ?_;clear hK K
        try simp only [Act.put]
        refine wpAny_done (by kernel_rfl) ?_ _
        have F:=Lib.hid ((E.out.keep HB6.out).six h4 Q)
        go_wp2_with (first
          | ((with_reducible refine ld86 (w.heap.size + 1) 0 n2 ?_ ?_ ?_);(· exact ⟨rfl,_,rfl,rfl⟩);· exact F.out.y)
          | ((with_reducible refine ld86 (w3.heap.size + 1) 0 r ?_ ?_ ?_);(· exact ⟨rfl,_,rfl,rfl⟩);· exact F.out.r7)
          | (go_at_call 155;(with_reducible refine (Cm.out _).mono ?_);rintro e w7 ⟨rfl,hb7⟩;have G:=Lib.hid (F.out.keep hb7);clear hb7)
          | ((with_reducible refine st86 (w3.heap.size + 1) 0 R ?_ ?_ ?_);(· exact ⟨rfl,_,_,rfl,rfl,rfl⟩);· exact G.out.t7))
        try simp only [Act.put]
        have K:=Lib.hid (G.out.seven h4 R)
        refine wp_region_held_drew (S:=(fun w'=>Below w.heap.size w w'/\w'.rangeAt w3.heap.size 0 (mgL Q)/\w'.rangeAt (w3.heap.size + 1) 0 (mgL R)/\w'.cell? ⟨w.heap.size,30,none⟩ = some (.bool true)/\w'.cell? ⟨w.heap.size + 1,30,none⟩ = some (.bool s2)/\w'.there (w.heap.size + 2) 0 31/\w'.there (w.heap.size + 3) 0 31)) (by kernel_rfl) ?_ (fun hH=>?_)
        · exact ⟨K.out.drew.below,K.out.drew.r6,K.out.drew.r7,K.out.drew.c1,K.out.drew.c2,K.out.drew.t2,K.out.drew.t3⟩
        try dsimp only at hH
        refine wpAnyH_take (i:=0) (v:=(.agg (mgL Q).toArray)) rfl (by kernel_rfl) (by kernel_rfl) (by kernel_rfl) (fun _ _ _ h=>h) (yld86 w3.heap.size 0 Q rfl ⟨_,rfl,rfl⟩ (fun wz hz=>hz.2.1)) hH ?_
        try simp only [Act.put,List.getElem_toArray,List.getElem_cons_zero,List.setIfInBounds_toArray,List.set_cons_zero,List.set_cons_succ]
        refine wpAnyH_take (i:=1) (v:=(.pointer (some ⟨w.heap.size,30,none⟩))) rfl (by kernel_rfl) (by kernel_rfl) (by kernel_rfl) (fun _ _ _ h=>h) (Or.inl ⟨by rfl,fun wz hz=>by skip;go_simp⟩) hH ?_
        try simp only [Act.put,List.getElem_toArray,List.getElem_cons_succ,List.getElem_cons_zero,List.setIfInBounds_toArray,List.set_cons_zero,List.set_cons_succ]
        refine wpAnyH_take (i:=2) (v:=(.bool true)) rfl (by kernel_rfl) (by kernel_rfl) (by kernel_rfl) (fun _ _ _ h=>h) (Or.inl ⟨by rfl,fun wz hz=>by have hc:=hz.2.2.2.1;go_simp⟩) hH ?_
        try simp only [Act.put,List.getElem_toArray,List.getElem_cons_succ,List.getElem_cons_zero,List.setIfInBounds_toArray,List.set_cons_zero,List.set_cons_succ]
        refine wpAnyH_take (i:=3) (v:=(.pointer (some ⟨w.heap.size + 1,30,none⟩))) rfl (by kernel_rfl) (by kernel_rfl) (by kernel_rfl) (fun _ _ _ h=>h) (Or.inl ⟨by rfl,fun wz hz=>by skip;go_simp⟩) hH ?_
        try simp only [Act.put,List.getElem_toArray,List.getElem_cons_succ,List.getElem_cons_zero,List.setIfInBounds_toArray,List.set_cons_zero,List.set_cons_succ]
        refine wpAnyH_take (i:=4) (v:=(.bool s2)) rfl (by kernel_rfl) (by kernel_rfl) (by kernel_rfl) (fun _ _ _ h=>h) (Or.inl ⟨by rfl,fun wz hz=>by have hc:=hz.2.2.2.2.1;go_simp⟩) hH ?_
        try simp only [Act.put,List.getElem_toArray,List.getElem_cons_succ,List.getElem_cons_zero,List.setIfInBounds_toArray,List.set_cons_zero,List.set_cons_succ]
        refine wpAnyH_take (i:=5) (v:=(.bool (!s2))) rfl (by kernel_rfl) (by kernel_rfl) (by kernel_rfl) (fun _ _ _ h=>h) (Or.inl ⟨by rfl,fun wz hz=>by skip;go_simp⟩) hH ?_
        try simp only [Act.put,List.getElem_toArray,List.getElem_cons_succ,List.getElem_cons_zero,List.setIfInBounds_toArray,List.set_cons_zero,List.set_cons_succ]
        refine wpAnyH_take (i:=7) (v:=(.agg (mgL R).toArray)) rfl (by kernel_rfl) (by kernel_rfl) (by kernel_rfl) (fun _ _ _ h=>h) (yld86 (w3.heap.size + 1) 0 R rfl ⟨_,rfl,rfl⟩ (fun wz hz=>hz.2.2.1)) hH ?_
        try simp only [Act.put,List.getElem_toArray,List.getElem_cons_succ,List.getElem_cons_zero,List.setIfInBounds_toArray,List.set_cons_zero,List.set_cons_succ]
        refine wpAnyH_ready (rs:=[6]) (by kernel_rfl) (by simp) ?_
        refine AllReadyH.cons rfl (fun K hK=>?_) AllReadyH.nil
        simp only [List.getElem_toArray,List.getElem_cons_succ,List.getElem_cons_zero]
        rw [if_pos (by rfl)]
        go_simp
        refine (Cn1.out _).mono ?_;rintro e w1 ⟨rfl,hb1⟩
        try simp only []
        refine hK.out _ _ ?_ (fun hH1=>?_)
        · exact ⟨(hH.1).trans (hb1.mono (hH.1).size),range_keep hH.2.1 hb1,range_keep hH.2.2.1 hb1,cell_keep hH.2.2.2.1 hb1,cell_keep hH.2.2.2.2.1 hb1,there_keep hH.2.2.2.2.2.1 hb1,there_keep hH.2.2.2.2.2.2 hb1⟩
        clear hK K
        try simp only [Act.put,List.getElem_toArray,List.getElem_cons_succ,List.getElem_cons_zero,List.setIfInBounds_toArray,List.set_cons_zero,List.set_cons_succ]
        refine wpAnyH_ready (rs:=[8]) (by kernel_rfl) (by simp) ?_
        refine AllReadyH.cons rfl (fun K hK=>?_) AllReadyH.nil
        simp only [List.getElem_toArray,List.getElem_cons_succ,List.getElem_cons_zero]
        rw [if_pos (by rfl)]
        go_simp
        refine (Cn2.out _).mono ?_;rintro e w2 ⟨rfl,hb2⟩
        try simp only []
        refine hK.out _ _ ?_ (fun hH2=>?_)
        · exact ⟨(hH1.1).trans (hb2.mono (hH1.1).size),range_keep hH1.2.1 hb2,range_keep hH1.2.2.1 hb2,cell_keep hH1.2.2.2.1 hb2,cell_keep hH1.2.2.2.2.1 hb2,there_keep hH1.2.2.2.2.2.1 hb2,there_keep hH1.2.2.2.2.2.2 hb2⟩
        clear hK K
        try simp only [Act.put,List.getElem_toArray,List.getElem_cons_succ,List.getElem_cons_zero,List.setIfInBounds_toArray,List.set_cons_zero,List.set_cons_succ]
        refine wpAnyH_ready (rs:=[9]) (by kernel_rfl) (by simp) ?_
        refine AllReadyH.cons rfl (fun K hK=>?_) AllReadyH.nil
        simp only [List.getElem_toArray,List.getElem_cons_succ,List.getElem_cons_zero]
        rw [if_pos (by rfl)]
        with_reducible refine wst88 (w.heap.size + 2) 0 Q sg ?_ hH2.2.2.2.2.2.1 ?_
        · exact ⟨_,_,rfl,rfl,rfl⟩
        refine hK.out _ _ ?_ (fun hH3=>?_)
        · exact ⟨below_set hH2.1 (by omega) _ _,range_setk hH2.2.1 (by first | trivial | omega),range_setk hH2.2.2.1 (by first | trivial | omega),cell_setk hH2.2.2.2.1 (by first | trivial | omega),cell_setk hH2.2.2.2.2.1 (by first | trivial | omega),there_setk hH2.2.2.2.2.2.1 (by first | trivial | omega),there_setk hH2.2.2.2.2.2.2 (by first | trivial | omega)⟩
        clear hK K
        try simp only [Act.put]
        refine wpAnyH_ready (rs:=[10]) (by kernel_rfl) (by simp) ?_
        refine AllReadyH.cons rfl (fun K hK=>?_) AllReadyH.nil
        simp only [List.getElem_toArray,List.getElem_cons_succ,List.getElem_cons_zero]
        rw [if_pos (by rfl)]
        with_reducible refine wst88 (w.heap.size + 3) 0 R false ?_ hH3.2.2.2.2.2.2 ?_
        · exact ⟨_,_,rfl,rfl,rfl⟩
        refine hK.out _ _ ?_ (fun hH4=>?_)
        · exact ⟨below_set hH3.1 (by omega) _ _,range_setk hH3.2.1 (by first | trivial | omega),range_setk hH3.2.2.1 (by first | trivial | omega),cell_setk hH3.2.2.2.1 (by first | trivial | omega),cell_setk hH3.2.2.2.2.1 (by first | trivial | omega),there_setk hH3.2.2.2.2.2.1 (by first | trivial | omega),there_setk hH3.2.2.2.2.2.2 (by first | trivial | omega)⟩
        clear hK K
        try simp only [Act.put]
        refine wpAnyH_done (by kernel_rfl) ?_ _
        go_wp2
        exact ret_cc88 Tryz.results87 (w.heap.size + 2) 0 (w.heap.size + 3) 0 rfl rfl Q sg R false (range_setk (range_set hH2.2.2.2.2.2.1 (by rw [sgL_len])) (by omega)) (range_set hH3.2.2.2.2.2.2 (by rw [sgL_len])) rfl ⟨rfl,hH4.1⟩
      refine AllReady.cons rfl (fun K hK=>?_) AllReady.nil
      simp only [List.getElem_toArray,List.getElem_cons_succ,List.getElem_cons_zero]
      rw [if_pos (by rfl)]
      go_simp
      refine (C9.out _).mono ?_;rintro e w5 ⟨rfl,hb5⟩
      have HB5:=Lib.hid hb5;clear hb5
      try simp only []
      refine hK _ _ ?_;clear hK K
      try simp only [Act.put,List.getElem_toArray,List.getElem_cons_succ,List.getElem_cons_zero,List.setIfInBounds_toArray,List.set_cons_zero,List.set_cons_succ]
      refine wpAny_ready (rs:=[0]) (by kernel_rfl) (by simp) ?_
      refine AllReady.cons rfl (fun K hK=>?_) AllReady.nil
      simp only [List.getElem_toArray,List.getElem_cons_zero]
      rw [if_pos (by rfl)]
      refine wld86 w3.heap.size 0 q ⟨_,rfl,rfl⟩ (range_keep E.out.r6 HB5.out) ?_
      refine hK _ _ ?_;clear hK K
      try simp only [Act.put,List.setIfInBounds_toArray,List.set_cons_zero,List.set_cons_succ]
      refine wpAny_ready (rs:=[2]) (by kernel_rfl) (by simp) ?_
      refine AllReady.cons rfl (fun K hK=>?_) AllReady.nil
      simp only [List.getElem_toArray,List.getElem_cons_succ,List.getElem_cons_zero]
      rw [if_pos (by rfl)]
      go_simp
      refine (Cp.out _).mono ?_;rintro e w6 ⟨rfl,hb6⟩
      have HB6:=Lib.hid (HB5.out.trans (hb6.mono HB5.out.size));clear hb6
      try simp only []
      refine hK _ _ ?_;clear hK K
      try simp only [Act.put,List.getElem_toArray,List.getElem_cons_succ,List.getElem_cons_zero,List.setIfInBounds_toArray,List.set_cons_zero,List.set_cons_succ]
      refine wpAny_ready (rs:=[3]) (by kernel_rfl) (by simp) ?_
      refine AllReady.cons rfl (fun K hK=>?_) AllReady.nil
      simp only [List.getElem_toArray,List.getElem_cons_succ,List.getElem_cons_zero]
      rw [if_pos (by rfl)]
      refine wst86 w3.heap.size 0 Q ⟨_,_,rfl,rfl,rfl⟩ (E.out.keep HB6.out).t6 ?_
      refine hK _ _ ?_;clear hK K
      try simp only [Act.put]
      refine wpAny_done (by kernel_rfl) ?_ _
      have F:=Lib.hid ((E.out.keep HB6.out).six h4 Q)
      go_wp2_with (first
        | ((with_reducible refine ld86 (w.heap.size + 1) 0 n2 ?_ ?_ ?_);(· exact ⟨rfl,_,rfl,rfl⟩);· exact F.out.y)
        | ((with_reducible refine ld86 (w3.heap.size + 1) 0 r ?_ ?_ ?_);(· exact ⟨rfl,_,rfl,rfl⟩);· exact F.out.r7)
        | (go_at_call 155;(with_reducible refine (Cm.out _).mono ?_);rintro e w7 ⟨rfl,hb7⟩;have G:=Lib.hid (F.out.keep hb7);clear hb7)
        | ((with_reducible refine st86 (w3.heap.size + 1) 0 R ?_ ?_ ?_);(· exact ⟨rfl,_,_,rfl,rfl,rfl⟩);· exact G.out.t7))
      try simp only [Act.put]
      have K:=Lib.hid (G.out.seven h4 R)
      refine wp_region_held_drew (S:=(fun w'=>Below w.heap.size w w'/\w'.rangeAt w3.heap.size 0 (mgL Q)/\w'.rangeAt (w3.heap.size + 1) 0 (mgL R)/\w'.cell? ⟨w.heap.size,30,none⟩ = some (.bool true)/\w'.cell? ⟨w.heap.size + 1,30,none⟩ = some (.bool s2)/\w'.there (w.heap.size + 2) 0 31/\w'.there (w.heap.size + 3) 0 31)) (by kernel_rfl) ?_ (fun hH=>?_)
      · exact ⟨K.out.drew.below,K.out.drew.r6,K.out.drew.r7,K.out.drew.c1,K.out.drew.c2,K.out.drew.t2,K.out.drew.t3⟩
      try dsimp only at hH
      refine wpAnyH_take (i:=0) (v:=(.agg (mgL Q).toArray)) rfl (by kernel_rfl) (by kernel_rfl) (by kernel_rfl) (fun _ _ _ h=>h) (yld86 w3.heap.size 0 Q rfl ⟨_,rfl,rfl⟩ (fun wz hz=>hz.2.1)) hH ?_
      try simp only [Act.put,List.getElem_toArray,List.getElem_cons_zero,List.setIfInBounds_toArray,List.set_cons_zero,List.set_cons_succ]
      refine wpAnyH_take (i:=1) (v:=(.pointer (some ⟨w.heap.size,30,none⟩))) rfl (by kernel_rfl) (by kernel_rfl) (by kernel_rfl) (fun _ _ _ h=>h) (Or.inl ⟨by rfl,fun wz hz=>by skip;go_simp⟩) hH ?_
      try simp only [Act.put,List.getElem_toArray,List.getElem_cons_succ,List.getElem_cons_zero,List.setIfInBounds_toArray,List.set_cons_zero,List.set_cons_succ]
      refine wpAnyH_take (i:=2) (v:=(.bool true)) rfl (by kernel_rfl) (by kernel_rfl) (by kernel_rfl) (fun _ _ _ h=>h) (Or.inl ⟨by rfl,fun wz hz=>by have hc:=hz.2.2.2.1;go_simp⟩) hH ?_
      try simp only [Act.put,List.getElem_toArray,List.getElem_cons_succ,List.getElem_cons_zero,List.setIfInBounds_toArray,List.set_cons_zero,List.set_cons_succ]
      refine wpAnyH_take (i:=3) (v:=(.pointer (some ⟨w.heap.size + 1,30,none⟩))) rfl (by kernel_rfl) (by kernel_rfl) (by kernel_rfl) (fun _ _ _ h=>h) (Or.inl ⟨by rfl,fun wz hz=>by skip;go_simp⟩) hH ?_
      try simp only [Act.put,List.getElem_toArray,List.getElem_cons_succ,List.getElem_cons_zero,List.setIfInBounds_toArray,List.set_cons_zero,List.set_cons_succ]
      refine wpAnyH_take (i:=4) (v:=(.bool s2)) rfl (by kernel_rfl) (by kernel_rfl) (by kernel_rfl) (fun _ _ _ h=>h) (Or.inl ⟨by rfl,fun wz hz=>by have hc:=hz.2.2.2.2.1;go_simp⟩) hH ?_
      try simp only [Act.put,List.getElem_toArray,List.getElem_cons_succ,List.getElem_cons_zero,List.setIfInBounds_toArray,List.set_cons_zero,List.set_cons_succ]
      refine wpAnyH_take (i:=5) (v:=(.bool (!s2))) rfl (by kernel_rfl) (by kernel_rfl) (by kernel_rfl) (fun _ _ _ h=>h) (Or.inl ⟨by rfl,fun wz hz=>by skip;go_simp⟩) hH ?_
      try simp only [Act.put,List.getElem_toArray,List.getElem_cons_succ,List.getElem_cons_zero,List.setIfInBounds_toArray,List.set_cons_zero,List.set_cons_succ]
      refine wpAnyH_take (i:=7) (v:=(.agg (mgL R).toArray)) rfl (by kernel_rfl) (by kernel_rfl) (by kernel_rfl) (fun _ _ _ h=>h) (yld86 (w3.heap.size + 1) 0 R rfl ⟨_,rfl,rfl⟩ (fun wz hz=>hz.2.2.1)) hH ?_
      try simp only [Act.put,List.getElem_toArray,List.getElem_cons_succ,List.getElem_cons_zero,List.setIfInBounds_toArray,List.set_cons_zero,List.set_cons_succ]
      refine wpAnyH_ready (rs:=[6]) (by kernel_rfl) (by simp) ?_
      refine AllReadyH.cons rfl (fun K hK=>?_) AllReadyH.nil
      simp only [List.getElem_toArray,List.getElem_cons_succ,List.getElem_cons_zero]
      rw [if_pos (by rfl)]
      go_simp
      refine (Cn1.out _).mono ?_;rintro e w1 ⟨rfl,hb1⟩
      try simp only []
      refine hK.out _ _ ?_ (fun hH1=>?_)
      · exact ⟨(hH.1).trans (hb1.mono (hH.1).size),range_keep hH.2.1 hb1,range_keep hH.2.2.1 hb1,cell_keep hH.2.2.2.1 hb1,cell_keep hH.2.2.2.2.1 hb1,there_keep hH.2.2.2.2.2.1 hb1,there_keep hH.2.2.2.2.2.2 hb1⟩
      clear hK K
      try simp only [Act.put,List.getElem_toArray,List.getElem_cons_succ,List.getElem_cons_zero,List.setIfInBounds_toArray,List.set_cons_zero,List.set_cons_succ]
      refine wpAnyH_ready (rs:=[8]) (by kernel_rfl) (by simp) ?_
      refine AllReadyH.cons rfl (fun K hK=>?_) AllReadyH.nil
      simp only [List.getElem_toArray,List.getElem_cons_succ,List.getElem_cons_zero]
      rw [if_pos (by rfl)]
      go_simp
      refine (Cn2.out _).mono ?_;rintro e w2 ⟨rfl,hb2⟩
      try simp only []
      refine hK.out _ _ ?_ (fun hH2=>?_)
      · exact ⟨(hH1.1).trans (hb2.mono (hH1.1).size),range_keep hH1.2.1 hb2,range_keep hH1.2.2.1 hb2,cell_keep hH1.2.2.2.1 hb2,cell_keep hH1.2.2.2.2.1 hb2,there_keep hH1.2.2.2.2.2.1 hb2,there_keep hH1.2.2.2.2.2.2 hb2⟩
      clear hK K
      try simp only [Act.put,List.getElem_toArray,List.getElem_cons_succ,List.getElem_cons_zero,List.setIfInBounds_toArray,List.set_cons_zero,List.set_cons_succ]
      refine wpAnyH_ready (rs:=[9]) (by kernel_rfl) (by simp) ?_
      refine AllReadyH.cons rfl (fun K hK=>?_) AllReadyH.nil
      simp only [List.getElem_toArray,List.getElem_cons_succ,List.getElem_cons_zero]
      rw [if_pos (by rfl)]
      with_reducible refine wst88 (w.heap.size + 2) 0 Q sg ?_ hH2.2.2.2.2.2.1 ?_
      · exact ⟨_,_,rfl,rfl,rfl⟩
      refine hK.out _ _ ?_ (fun hH3=>?_)
      · exact ⟨below_set hH2.1 (by omega) _ _,range_setk hH2.2.1 (by first | trivial | omega),range_setk hH2.2.2.1 (by first | trivial | omega),cell_setk hH2.2.2.2.1 (by first | trivial | omega),cell_setk hH2.2.2.2.2.1 (by first | trivial | omega),there_setk hH2.2.2.2.2.2.1 (by first | trivial | omega),there_setk hH2.2.2.2.2.2.2 (by first | trivial | omega)⟩
      clear hK K
      try simp only [Act.put]
      refine wpAnyH_ready (rs:=[10]) (by kernel_rfl) (by simp) ?_
      refine AllReadyH.cons rfl (fun K hK=>?_) AllReadyH.nil
      simp only [List.getElem_toArray,List.getElem_cons_succ,List.getElem_cons_zero]
      rw [if_pos (by rfl)]
      with_reducible refine wst88 (w.heap.size + 3) 0 R false ?_ hH3.2.2.2.2.2.2 ?_
      · exact ⟨_,_,rfl,rfl,rfl⟩
      refine hK.out _ _ ?_ (fun hH4=>?_)
      · exact ⟨below_set hH3.1 (by omega) _ _,range_setk hH3.2.1 (by first | trivial | omega),range_setk hH3.2.2.1 (by first | trivial | omega),cell_setk hH3.2.2.2.1 (by first | trivial | omega),cell_setk hH3.2.2.2.2.1 (by first | trivial | omega),there_setk hH3.2.2.2.2.2.1 (by first | trivial | omega),there_setk hH3.2.2.2.2.2.2 (by first | trivial | omega)⟩
      clear hK K
      try simp only [Act.put]
      refine wpAnyH_done (by kernel_rfl) ?_ _
      go_wp2
      exact ret_cc88 Tryz.results87 (w.heap.size + 2) 0 (w.heap.size + 3) 0 rfl rfl Q sg R false (range_setk (range_set hH2.2.2.2.2.2.1 (by rw [sgL_len])) (by omega)) (range_set hH3.2.2.2.2.2.2 (by rw [sgL_len])) rfl ⟨rfl,hH4.1⟩
end Go.Proofs.YtpbegoflpfdajaaGreatDoor

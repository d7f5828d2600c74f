/- WHAT IS PROVED: contracts of functions of the numbers package and laws for them, used by the last text of this claim. CONDITIONS: stated at each theorem. -/
import Derived.Test.YtpbegoflpfdajaaGreatDoorB19
namespace Go.Proofs.YtpbegoflpfdajaaGreatDoor
section
open Go.RowKit
def new1 (w : World) (a : Nat) : World:=(w.alloc (.cells (mgL 0).toArray 86)).setCells w.heap.size 0 (mgL a)
def new2 (w : World) (a b : Nat) : World:=(((w.alloc (.cells (mgL 0).toArray 86)).alloc (.cells (mgL 0).toArray 86)).setCells w.heap.size 0 (mgL a)).setCells (w.heap.size + 1) 0 (mgL b)
theorem new1_old (w : World) (a : Nat) : Below w.heap.size w (new1 w a):=below_set ((Below.refl _ _).alloc (Nat.le_refl _) _) (Nat.le_refl _) _ _
theorem new1_at (w : World) (a : Nat) : (new1 w a).rangeAt w.heap.size 0 (mgL a):=range_set (there_at rfl _ 86 (by rw [mgL_len])) (by rw [mgL_len])
theorem new2_old (w : World) (a b : Nat) : Below w.heap.size w (new2 w a b):=below_set (below_set (((Below.refl _ _).alloc (Nat.le_refl _) _).alloc (by simp) _) (Nat.le_refl _) _ _) (by omega) _ _
theorem new2_at0 (w : World) (a b : Nat) : (new2 w a b).rangeAt w.heap.size 0 (mgL a):=range_setk (range_set (gd_there0 w) (by rw [mgL_len])) (by omega)
theorem range_frl {w : World} {b : Nat} {p : Nat} {s : Bool} {q : Nat} {t : Bool} (h : w.rangeAt b 0 (frL p s q t)) : w.rangeAt b 0 (mgL p)/\w.cell? ⟨b,30,none⟩ = some (.bool s)/\w.rangeAt b 31 (mgL q)/\w.cell? ⟨b,61,none⟩ = some (.bool t):=by
  unfold frL at h
  have h1 : w.rangeAt b 0 (sgL p s):=fun j v hv=>h j v (by rw [List.getElem?_append_left (by have:=(List.getElem?_eq_some_iff.1 hv).1;exact this)];exact hv)
  have h2 : w.rangeAt b 31 (sgL q t):=fun j v hv=>by
    have:=h (31 + j) v (by rw [List.getElem?_append_right (by rw [sgL_len];omega),sgL_len,Nat.add_sub_cancel_left];exact hv)
    rwa [Nat.zero_add] at this
  obtain ⟨a,c⟩:=range_sg h1
  refine ⟨a,c,fun j v hv=>h2 j v ?_,?_⟩
  · unfold sgL;rw [List.getElem?_append_left (by have:=(List.getElem?_eq_some_iff.1 hv).1;exact this)];exact hv
  · have:=h2 30 (.bool t) sgL_get
    exact this
end
section
open Go.RowKit
theorem yb115 {ops : Array Oper} {S : World->Prop} {op : Oper} {a : Act} (p : Nat) (s : Bool) (q : Nat) (t : Bool) (x y : Operand) (hw : Region.wanted op (yielded ops a.tmps) = true) (ho : op.op = .build 115 #[(0,x),(1,y)]) (hx : a.eval x = .agg (sgL p s).toArray) (hy : a.eval y = .agg (sgL q t).toArray) :
    YieldsIf Tryz.prog ops S op (.agg (frL p s q t).toArray) a:=Or.inl ⟨hw,fun w _=>by
  have h:=run_next (build115 p s q t w)
  unfold execOp
  simp only [ho]
  simpa [hx,hy] using h⟩
set_option maxHeartbeats 2000000 in
set_option maxRecDepth 20000 in
theorem reduced_any (p : Nat) (s : Bool) (q : Nat) (t : Bool) (hp : p < bb ^ 29) (hq : q < bb ^ 29) (h0 : 0 < q) (w : World) :
    Calls Tryz.prog 115 #[.agg (frL p s q t).toArray] w fun e w'=>e = .returned (.agg (frL (p / Nat.gcd p q) (s && !decide (p / Nat.gcd p q = 0)) (q / Nat.gcd p q) false).toArray)/\Below w.heap.size w w':=by
  have hg0 : 0 < Nat.gcd p q:=Nat.gcd_pos_of_pos_right _ h0
  have hgq : Nat.gcd p q < bb ^ 30:=gcd_lt hp hq
  have hp30 : p < bb ^ 30:=Nat.lt_of_lt_of_le hp (pow_mono (by omega))
  have hq30 : q < bb ^ 30:=Nat.lt_of_lt_of_le hq (pow_mono (by omega))
  have Cg:=Lib.hid (fun w=>gcd_any p q hp hq w)
  have Cu:=Lib.hid (fun w=>divide_all p (Nat.gcd p q) hp hgq hg0 w)
  have Cl:=Lib.hid (fun w=>divide_all q (Nat.gcd p q) hq hgq hg0 w)
  have Cn:=Lib.hid (fun w=>number_any (p / Nat.gcd p q) s (Nat.lt_of_le_of_lt (Nat.div_le_self _ _) hp30) w)
  have hlp : 0 < q / Nat.gcd p q:=Nat.div_pos (Nat.gcd_le_right _ h0) hg0
  have cm:=fun w=>number_any (q / Nat.gcd p q) false (Nat.lt_of_le_of_lt (Nat.div_le_self _ _) hq30) w
  change ∀ w,Calls Tryz.prog 93 #[.agg (mgL (q / Nat.gcd p q)).toArray,.bool false] w (fun e w'=>e = .returned (.agg (sgL (q / Nat.gcd p q) false).toArray)/\Below w.heap.size w w') at cm
  have Cm:=Lib.hid cm
  obtain ⟨c,hc⟩ : ∃ c,Nat.gcd p q = c:=⟨_,rfl⟩
  rw [hc] at Cg Cu Cl Cn Cm ⊢
  obtain ⟨u,hu⟩ : ∃ u,p / c = u:=⟨_,rfl⟩
  obtain ⟨l,hl⟩ : ∃ l,q / c = l:=⟨_,rfl⟩
  obtain ⟨ru,hru⟩ : ∃ r,p % c = r:=⟨_,rfl⟩
  obtain ⟨rl,hrl⟩ : ∃ r,q % c = r:=⟨_,rfl⟩
  rw [hu] at Cu Cn ⊢
  rw [hl] at Cl Cm ⊢
  rw [hru] at Cu
  rw [hrl] at Cl
  have hF:=range_frl (World.rangeAt_alloc (range_new w (frL p s q t) 115) (.cells (frL 0 false 0 false).toArray 115))
  have HF:=Lib.hid hF
  have Hb:=Lib.hid (show Below w.heap.size w ((w.alloc (.cells (frL p s q t).toArray 115)).alloc (.cells (frL 0 false 0 false).toArray 115)) from ((Below.refl w.heap.size w).alloc (Nat.le_refl _) _).alloc (by simp) _)
  have Ht:=Lib.hid (show ((w.alloc (.cells (frL p s q t).toArray 115)).alloc (.cells (frL 0 false 0 false).toArray 115)).there (w.heap.size + 1) 0 62 from there_at (by simp) _ 115 (by rw [frL_len]))
  clear cm hc hu hl hru hrl hF hp hq h0 hg0 hgq hq30 hp30 hlp
  go_enter Tryz.func115,Tryz.ntmps115
  go_wp2_with (first
    | ((with_reducible refine al_zb 115 _ (w.heap.size + 1) ?_ ?_ z115 ?_);(· exact ⟨rfl,rfl⟩);· (simp;done))
    | ((with_reducible refine ld86 w.heap.size 0 p ?_ ?_ ?_);(· exact ⟨rfl,_,rfl,rfl⟩);· first | exact HF.out.1 | exact range_keep HF.out.1 K1.out)
    | ((with_reducible refine ld86 w.heap.size 31 q ?_ ?_ ?_);(· exact ⟨rfl,_,rfl,rfl⟩);· first | exact HF.out.2.2.1 | exact range_keep HF.out.2.2.1 K2.out)
    | (go_at_call 96;(with_reducible refine (Cg.out _).mono ?_);rintro e w1 ⟨rfl,hb1⟩;have K1:=Lib.hid (hb1.trans ((new1_old w1 c).mono hb1.size));have R1:=Lib.hid (new1_at w1 c);clear hb1)
    | ((with_reducible refine al_zb 86 _ w1.heap.size ?_ ?_ z86 ?_);(· exact ⟨rfl,rfl⟩);· rfl)
    | ((with_reducible refine st86 w1.heap.size 0 c ?_ ?_ ?_);(· exact ⟨rfl,_,_,rfl,rfl,rfl⟩);· exact there_at rfl _ 86 (by rw [mgL_len]))
    | ((with_reducible refine ld86 w1.heap.size 0 c ?_ ?_ ?_);(· exact ⟨rfl,_,rfl,rfl⟩);· first | exact R1.out | exact range_keep R1.out J2.out)
    | (go_at_call 154;(with_reducible refine (Cu.out _).mono ?_);rintro e w2 ⟨rfl,hb2⟩;have J2:=Lib.hid (hb2.trans ((new2_old w2 u ru).mono hb2.size));have K2:=Lib.hid (K1.out.trans (J2.out.mono K1.out.size));have R2:=Lib.hid (new2_at0 w2 u ru);have Z2:=Lib.hid (Nat.le_trans K1.out.size hb2.size);clear hb2 Cu)
    | ((with_reducible refine al_zb 86 _ w2.heap.size ?_ ?_ z86 ?_);(· exact ⟨rfl,rfl⟩);· rfl)
    | ((with_reducible refine al_zb 86 _ (w2.heap.size + 1) ?_ ?_ z86 ?_);(· exact ⟨rfl,rfl⟩);· (simp;done))
    | ((with_reducible refine st86 w2.heap.size 0 u ?_ ?_ ?_);(· exact ⟨rfl,_,_,rfl,rfl,rfl⟩);· exact gd_there0 w2)
    | ((with_reducible refine st86 (w2.heap.size + 1) 0 ru ?_ ?_ ?_);(· exact ⟨rfl,_,_,rfl,rfl,rfl⟩);· exact World.there_setCells (gd_there1 w2) _ _ _)
    | (go_at_call 154;(with_reducible refine (Cl.out _).mono ?_);rintro e w3 ⟨rfl,hb3⟩;have J3:=Lib.hid (hb3.trans ((new2_old w3 l rl).mono hb3.size));have K3:=Lib.hid (K2.out.trans (J3.out.mono K2.out.size));have R3:=Lib.hid (new2_at0 w3 l rl);have Z3:=Lib.hid (Nat.le_trans K2.out.size hb3.size);clear hb3 Cl)
    | ((with_reducible refine al_zb 86 _ w3.heap.size ?_ ?_ z86 ?_);(· exact ⟨rfl,rfl⟩);· rfl)
    | ((with_reducible refine al_zb 86 _ (w3.heap.size + 1) ?_ ?_ z86 ?_);(· exact ⟨rfl,rfl⟩);· (simp;done))
    | ((with_reducible refine st86 w3.heap.size 0 l ?_ ?_ ?_);(· exact ⟨rfl,_,_,rfl,rfl,rfl⟩);· exact gd_there0 w3)
    | ((with_reducible refine st86 (w3.heap.size + 1) 0 rl ?_ ?_ ?_);(· exact ⟨rfl,_,_,rfl,rfl,rfl⟩);· exact World.there_setCells (gd_there1 w3) _ _ _))
  try simp only [Act.put,List.setIfInBounds_toArray,List.set_cons_zero,List.set_cons_succ]
  have HBx:=Lib.hid (Hb.out.trans (K3.out.mono Hb.out.size))
  have z2 : w.heap.size + 2 <= w2.heap.size:=by simpa using Z2.out
  have z3 : w.heap.size + 2 <= w3.heap.size:=by simpa using Z3.out
  refine wp_region_held_drew (S:=(fun w'=>Below w.heap.size w w'/\w'.rangeAt w2.heap.size 0 (mgL u)/\w'.cell? ⟨w.heap.size,30,none⟩ = some (.bool s)/\w'.rangeAt w3.heap.size 0 (mgL l)/\w'.there (w.heap.size + 1) 0 62)) (by kernel_rfl) ?_ (fun hH=>?_)
  · exact ⟨HBx.out.drew,range_keep R2.out J3.out.drew,cell_keep HF.out.2.1 K3.out.drew,R3.out,there_keep Ht.out K3.out.drew⟩
  try dsimp only at hH
  refine wpAnyH_take (i:=0) (v:=(.agg (mgL u).toArray)) rfl (by kernel_rfl) (by kernel_rfl) (by kernel_rfl) (fun _ _ _ h=>h) (yld86 w2.heap.size 0 u rfl ⟨_,rfl,rfl⟩ (fun wz hz=>hz.2.1)) hH ?_
  try simp only [Act.put,List.getElem_toArray,List.getElem_cons_zero,List.setIfInBounds_toArray,List.set_cons_zero,List.set_cons_succ]
  refine wpAnyH_take (i:=1) (v:=(.pointer (some ⟨w.heap.size,0,none⟩))) rfl (by kernel_rfl) (by kernel_rfl) (by kernel_rfl) (fun _ _ _ h=>h) (Or.inl ⟨by rfl,fun wz hz=>by skip;go_simp⟩) hH ?_
  try simp only [Act.put,List.getElem_toArray,List.getElem_cons_succ,List.getElem_cons_zero,List.setIfInBounds_toArray,List.set_cons_zero,List.set_cons_succ]
  refine wpAnyH_take (i:=2) (v:=(.pointer (some ⟨w.heap.size,30,none⟩))) rfl (by kernel_rfl) (by kernel_rfl) (by kernel_rfl) (fun _ _ _ h=>h) (Or.inl ⟨by rfl,fun wz hz=>by skip;go_simp⟩) hH ?_
  try simp only [Act.put,List.getElem_toArray,List.getElem_cons_succ,List.getElem_cons_zero,List.setIfInBounds_toArray,List.set_cons_zero,List.set_cons_succ]
  refine wpAnyH_take (i:=3) (v:=(.bool s)) rfl (by kernel_rfl) (by kernel_rfl) (by kernel_rfl) (fun _ _ _ h=>h) (Or.inl ⟨by rfl,fun wz hz=>by have hc:=hz.2.2.1;go_simp⟩) hH ?_
  try simp only [Act.put,List.getElem_toArray,List.getElem_cons_succ,List.getElem_cons_zero,List.setIfInBounds_toArray,List.set_cons_zero,List.set_cons_succ]
  refine wpAnyH_take (i:=5) (v:=(.agg (mgL l).toArray)) rfl (by kernel_rfl) (by kernel_rfl) (by kernel_rfl) (fun _ _ _ h=>h) (yld86 w3.heap.size 0 l rfl ⟨_,rfl,rfl⟩ (fun wz hz=>hz.2.2.2.1)) hH ?_
  try simp only [Act.put,List.getElem_toArray,List.getElem_cons_succ,List.getElem_cons_zero,List.setIfInBounds_toArray,List.set_cons_zero,List.set_cons_succ]
  refine wpAnyH_ready (rs:=[4]) (by kernel_rfl) (by simp) ?_
  refine AllReadyH.cons rfl (fun K hK=>?_) AllReadyH.nil
  simp only [List.getElem_toArray,List.getElem_cons_succ,List.getElem_cons_zero]
  rw [if_pos (by rfl)]
  go_simp
  refine (Cn.out _).mono ?_;rintro e w1 ⟨rfl,hb1⟩
  try simp only []
  refine hK.out _ _ ?_ (fun hH1=>?_)
  · exact ⟨(hH.1).trans (hb1.mono (hH.1).size),range_keep hH.2.1 hb1,cell_keep hH.2.2.1 hb1,range_keep hH.2.2.2.1 hb1,there_keep hH.2.2.2.2 hb1⟩
  clear hK K
  try simp only [Act.put,List.getElem_toArray,List.getElem_cons_succ,List.getElem_cons_zero,List.setIfInBounds_toArray,List.set_cons_zero,List.set_cons_succ]
  refine wpAnyH_ready (rs:=[6]) (by kernel_rfl) (by simp) ?_
  refine AllReadyH.cons rfl (fun K hK=>?_) AllReadyH.nil
  simp only [List.getElem_toArray,List.getElem_cons_succ,List.getElem_cons_zero]
  rw [if_pos (by rfl)]
  go_simp
  refine (Cm.out _).mono ?_;rintro e w2 ⟨rfl,hb2⟩
  try simp only []
  refine hK.out _ _ ?_ (fun hH2=>?_)
  · exact ⟨(hH1.1).trans (hb2.mono (hH1.1).size),range_keep hH1.2.1 hb2,cell_keep hH1.2.2.1 hb2,range_keep hH1.2.2.2.1 hb2,there_keep hH1.2.2.2.2 hb2⟩
  clear hK K
  try simp only [Act.put,List.getElem_toArray,List.getElem_cons_succ,List.getElem_cons_zero,List.setIfInBounds_toArray,List.set_cons_zero,List.set_cons_succ]
  refine wpAnyH_take (i:=7) (v:=(.agg (frL u (s && !decide (u = 0)) l false).toArray)) rfl (by kernel_rfl) (by kernel_rfl) (by kernel_rfl) (fun _ _ _ h=>h) (yb115 u (s && !decide (u = 0)) l false _ _ rfl rfl rfl rfl) hH2 ?_
  try simp only [Act.put,List.getElem_toArray,List.getElem_cons_succ,List.getElem_cons_zero,List.setIfInBounds_toArray,List.set_cons_zero,List.set_cons_succ]
  refine wpAnyH_ready (rs:=[8]) (by kernel_rfl) (by simp) ?_
  refine AllReadyH.cons rfl (fun K hK=>?_) AllReadyH.nil
  simp only [List.getElem_toArray,List.getElem_cons_succ,List.getElem_cons_zero]
  rw [if_pos (by rfl)]
  with_reducible refine wst115 (w.heap.size + 1) 0 u (s && !decide (u = 0)) l false ?_ hH2.2.2.2.2 ?_
  · exact ⟨_,_,rfl,rfl,rfl⟩
  refine hK.out _ _ ?_ (fun hH3=>?_)
  · exact ⟨below_set hH2.1 (by omega) _ _,range_setk hH2.2.1 (by first | trivial | omega),cell_setk hH2.2.2.1 (by first | trivial | omega),range_setk hH2.2.2.2.1 (by first | trivial | omega),there_setk hH2.2.2.2.2 (by first | trivial | omega)⟩
  clear hK K
  try simp only [Act.put]
  refine wpAnyH_done (by kernel_rfl) ?_ _
  go_wp2
  exact ret115 Tryz.results115 (w.heap.size + 1) 0 rfl u (s && !decide (u = 0)) l false (range_set hH2.2.2.2.2 (by rw [frL_len])) rfl ⟨rfl,hH3.1⟩
end
section
open Go.RowKit
set_option maxHeartbeats 1000000 in
set_option maxRecDepth 20000 in
theorem ratio_pos (p : Nat) (s : Bool) (q : Nat) (hp : p < bb ^ 29) (hq : q < bb ^ 29) (h0 : 0 < q) (w : World) :
    Calls Tryz.prog 117 #[.agg (sgL p s).toArray,.agg (sgL q false).toArray] w fun e w'=>e = .returned (.agg (frL (p / Nat.gcd p q) (s && !decide (p / Nat.gcd p q = 0)) (q / Nat.gcd p q) false).toArray)/\Below w.heap.size w w':=by
  have cr:=fun w=>reduced_any p s q false hp hq h0 w
  obtain ⟨a,ha⟩ : ∃ a,p / Nat.gcd p q = a:=⟨_,rfl⟩
  obtain ⟨b,hb⟩ : ∃ b,(s && !decide (p / Nat.gcd p q = 0)) = b:=⟨_,rfl⟩
  obtain ⟨c,hc⟩ : ∃ c,q / Nat.gcd p q = c:=⟨_,rfl⟩
  rw [hb,ha,hc] at cr
  rw [hb,ha,hc]
  have Cr:=Lib.hid cr
  have Hb:=Lib.hid (show Below w.heap.size w (((w.alloc (.cells (sgL p s).toArray 88)).alloc (.cells (sgL q false).toArray 88)).alloc (.cells (frL 0 false 0 false).toArray 115)) from (((Below.refl w.heap.size w).alloc (Nat.le_refl _) _).alloc (by simp) _).alloc (by simp;omega) _)
  have Hr1:=Lib.hid (show (((w.alloc (.cells (sgL p s).toArray 88)).alloc (.cells (sgL q false).toArray 88)).alloc (.cells (frL 0 false 0 false).toArray 115)).rangeAt w.heap.size 0 (sgL p s) from World.rangeAt_alloc (World.rangeAt_alloc (range_new w _ 88) _) _)
  have hr2 : (((w.alloc (.cells (sgL p s).toArray 88)).alloc (.cells (sgL q false).toArray 88)).alloc (.cells (frL 0 false 0 false).toArray 115)).rangeAt (w.heap.size + 1) 0 (sgL q false):=World.rangeAt_alloc (range_at (by simp) _ 88) _
  have Hr2:=Lib.hid hr2
  have hcell:=cell_sg hr2
  have Ht:=Lib.hid (show (((w.alloc (.cells (sgL p s).toArray 88)).alloc (.cells (sgL q false).toArray 88)).alloc (.cells (frL 0 false 0 false).toArray 115)).there (w.heap.size + 2) 0 62 from there_at (by simp) _ 115 (by rw [frL_len]))
  clear cr ha hb hc hp hq h0 hr2
  go_enter Tryz.func117,Tryz.ntmps117
  go_wp2_with (first
    | ((with_reducible refine al_zb 115 _ (w.heap.size + 2) ?_ ?_ z115 ?_);(· exact ⟨rfl,rfl⟩);· (simp;done))
    | ((with_reducible refine ld88 w.heap.size 0 p s ?_ ?_ ?_);(· exact ⟨rfl,_,rfl,rfl⟩);· exact Hr1.out)
    | ((with_reducible refine ld88 (w.heap.size + 1) 0 q false ?_ ?_ ?_);(· exact ⟨rfl,_,rfl,rfl⟩);· exact Hr2.out)
    | ((with_reducible refine b115 p s q false ?_ ?_);(· exact ⟨rfl,_,_,rfl,rfl,rfl⟩))
    | (go_at_call 115;(with_reducible refine (Cr.out _).mono ?_);rintro e w1 ⟨rfl,hb1⟩;have HB1:=Lib.hid hb1;clear hb1)
    | ((with_reducible refine st115 (w.heap.size + 2) 0 a b c false ?_ ?_ ?_);(· exact ⟨rfl,_,_,rfl,rfl,rfl⟩);· exact there_keep Ht.out HB1.out))
  refine ret115 Tryz.results117 (w.heap.size + 2) 0 rfl a b c false (range_set (there_keep Ht.out HB1.out) (by rw [frL_len])) rfl ⟨rfl,?_⟩
  exact below_set (Hb.out.trans (HB1.out.mono Hb.out.size)) (by omega) _ _
end
section
open Go.RowKit
theorem wld88 {op : Oper} {a : Act} {w : World} {K : Act->World->Prop} {Q : Exit->Act->World->Prop} (b o : Nat) (n : Nat) (s : Bool) (ho : ∃ x,op.op = .load 88 x/\a.eval x = .pointer (some ⟨b,o,none⟩)) (hc : w.rangeAt b o (sgL n s)) (h : K (a.put op.dst (.agg (sgL n s).toArray)) w) : op.wp Tryz.prog a w K Q :=
  let ⟨x,h1,h2⟩:=ho;wp_load_mid 88 x h1 b o h2 (sgL n s) _ hc Tryz.underlying88 rfl (by rw [sgL_len];exact i88) h
set_option maxHeartbeats 4000000 in
set_option maxRecDepth 20000 in
theorem ratio_neg (p : Nat) (s : Bool) (q : Nat) (hp : p < bb ^ 29) (hq : q < bb ^ 29) (h0 : 0 < q) (w : World) :
    Calls Tryz.prog 117 #[.agg (sgL p s).toArray,.agg (sgL q true).toArray] w fun e w'=>e = .returned (.agg (frL (p / Nat.gcd p q) ((!s && !decide (p = 0)) && !decide (p / Nat.gcd p q = 0)) (q / Nat.gcd p q) false).toArray)/\Below w.heap.size w w':=by
  obtain ⟨s',hs'⟩ : ∃ b,(!s && !decide (p = 0)) = b:=⟨_,rfl⟩
  have c1:=fun w=>negated_any p s (Nat.lt_of_lt_of_le hp (pow_mono (by omega))) w
  have c2:=fun w=>negated_any q true (Nat.lt_of_lt_of_le hq (pow_mono (by omega))) w
  rw [hs'] at c1 ⊢
  rw [show (!true && !decide (q = 0)) = false from rfl] at c2
  have C1:=Lib.hid c1;have C2:=Lib.hid c2
  have cr:=fun w=>reduced_any p s' q false hp hq h0 w
  obtain ⟨a,ha⟩ : ∃ a,p / Nat.gcd p q = a:=⟨_,rfl⟩
  obtain ⟨b,hb⟩ : ∃ b,(s' && !decide (p / Nat.gcd p q = 0)) = b:=⟨_,rfl⟩
  obtain ⟨c,hc⟩ : ∃ c,q / Nat.gcd p q = c:=⟨_,rfl⟩
  rw [hb,ha,hc] at cr
  rw [hb,ha,hc]
  have Cr:=Lib.hid cr
  have Hb:=Lib.hid (show Below w.heap.size w (((w.alloc (.cells (sgL p s).toArray 88)).alloc (.cells (sgL q true).toArray 88)).alloc (.cells (frL 0 false 0 false).toArray 115)) from (((Below.refl w.heap.size w).alloc (Nat.le_refl _) _).alloc (by simp) _).alloc (by simp;omega) _)
  have Hr1:=Lib.hid (show (((w.alloc (.cells (sgL p s).toArray 88)).alloc (.cells (sgL q true).toArray 88)).alloc (.cells (frL 0 false 0 false).toArray 115)).rangeAt w.heap.size 0 (sgL p s) from World.rangeAt_alloc (World.rangeAt_alloc (range_new w _ 88) _) _)
  have hr2 : (((w.alloc (.cells (sgL p s).toArray 88)).alloc (.cells (sgL q true).toArray 88)).alloc (.cells (frL 0 false 0 false).toArray 115)).rangeAt (w.heap.size + 1) 0 (sgL q true):=World.rangeAt_alloc (range_at (by simp) _ 88) _
  have Hr2:=Lib.hid hr2
  have hcell:=cell_sg hr2
  have Ht1:=Lib.hid (show (((w.alloc (.cells (sgL p s).toArray 88)).alloc (.cells (sgL q true).toArray 88)).alloc (.cells (frL 0 false 0 false).toArray 115)).there w.heap.size 0 31 from World.there_alloc (World.there_alloc (there_at rfl _ 88 (by rw [sgL_len])) _) _)
  have Ht2:=Lib.hid (show (((w.alloc (.cells (sgL p s).toArray 88)).alloc (.cells (sgL q true).toArray 88)).alloc (.cells (frL 0 false 0 false).toArray 115)).there (w.heap.size + 1) 0 31 from World.there_alloc (there_at (by simp) _ 88 (by rw [sgL_len])) _)
  have Ht:=Lib.hid (show (((w.alloc (.cells (sgL p s).toArray 88)).alloc (.cells (sgL q true).toArray 88)).alloc (.cells (frL 0 false 0 false).toArray 115)).there (w.heap.size + 2) 0 62 from there_at (by simp) _ 115 (by rw [frL_len]))
  clear cr ha hb hc hp hq h0 hr2 c1 c2 hs'
  go_enter Tryz.func117,Tryz.ntmps117
  go_wp2_with (first
    | ((with_reducible refine al_zb 115 _ (w.heap.size + 2) ?_ ?_ z115 ?_);(· exact ⟨rfl,rfl⟩);· (simp;done)))
  try simp only [Act.put,List.getElem_toArray,List.getElem_cons_succ,List.getElem_cons_zero,List.setIfInBounds_toArray,List.set_cons_zero,List.set_cons_succ]
  have B0:=Lib.hid (show Below w.heap.size w (((w.alloc (.cells (sgL p s).toArray 88)).alloc (.cells (sgL q true).toArray 88)).alloc (.cells (frL 0 false 0 false).toArray 115)).drew from Hb.out.drew)
  have R1:=Lib.hid (show (((w.alloc (.cells (sgL p s).toArray 88)).alloc (.cells (sgL q true).toArray 88)).alloc (.cells (frL 0 false 0 false).toArray 115)).drew.rangeAt w.heap.size 0 (sgL p s) from Hr1.out)
  have R2:=Lib.hid (show (((w.alloc (.cells (sgL p s).toArray 88)).alloc (.cells (sgL q true).toArray 88)).alloc (.cells (frL 0 false 0 false).toArray 115)).drew.rangeAt (w.heap.size + 1) 0 (sgL q true) from Hr2.out)
  have T1:=Lib.hid (show (((w.alloc (.cells (sgL p s).toArray 88)).alloc (.cells (sgL q true).toArray 88)).alloc (.cells (frL 0 false 0 false).toArray 115)).drew.there w.heap.size 0 31 from Ht1.out)
  have T2:=Lib.hid (show (((w.alloc (.cells (sgL p s).toArray 88)).alloc (.cells (sgL q true).toArray 88)).alloc (.cells (frL 0 false 0 false).toArray 115)).drew.there (w.heap.size + 1) 0 31 from Ht2.out)
  have T:=Lib.hid (show (((w.alloc (.cells (sgL p s).toArray 88)).alloc (.cells (sgL q true).toArray 88)).alloc (.cells (frL 0 false 0 false).toArray 115)).drew.there (w.heap.size + 2) 0 62 from Ht.out)
  clear hcell Hr1 Hr2 Ht1 Ht2 Ht Hb
  refine wp_region_drew (by kernel_rfl) ?_
  refine wpAny_ready (rs:=[0,2]) (by kernel_rfl) (by simp) ?_
  refine AllReady.cons rfl (fun K hK=>?_) ?_
  · simp only [List.getElem_toArray,List.getElem_cons_zero]
    rw [if_pos (by rfl)]
    refine wld88 w.heap.size 0 p s ⟨_,rfl,rfl⟩ R1.out ?_
    refine hK _ _ ?_;clear hK K
    try simp only [Act.put,List.setIfInBounds_toArray,List.set_cons_zero,List.set_cons_succ]
    refine wpAny_ready (rs:=[1,2]) (by kernel_rfl) (by simp) ?_
    refine AllReady.cons rfl (fun K hK=>?_) ?_
    · simp only [List.getElem_toArray,List.getElem_cons_succ,List.getElem_cons_zero]
      rw [if_pos (by rfl)]
      go_simp
      refine (C1.out _).mono ?_;rintro e w1 ⟨rfl,hb1⟩
      have HB1:=Lib.hid hb1;clear hb1
      try simp only []
      refine hK _ _ ?_;clear hK K
      try simp only [Act.put,List.getElem_toArray,List.getElem_cons_succ,List.getElem_cons_zero,List.setIfInBounds_toArray,List.set_cons_zero,List.set_cons_succ]
      refine wpAny_ready (rs:=[2]) (by kernel_rfl) (by simp) ?_
      refine AllReady.cons rfl (fun K hK=>?_) AllReady.nil
      simp only [List.getElem_toArray,List.getElem_cons_succ,List.getElem_cons_zero]
      rw [if_pos (by rfl)]
      refine wld88 (w.heap.size + 1) 0 q true ⟨_,rfl,rfl⟩ (range_keep R2.out HB1.out) ?_
      refine hK _ _ ?_;clear hK K
      try simp only [Act.put,List.setIfInBounds_toArray,List.set_cons_zero,List.set_cons_succ]
      refine wpAny_ready (rs:=[3]) (by kernel_rfl) (by simp) ?_
      refine AllReady.cons rfl (fun K hK=>?_) AllReady.nil
      simp only [List.getElem_toArray,List.getElem_cons_succ,List.getElem_cons_zero]
      rw [if_pos (by rfl)]
      go_simp
      refine (C2.out _).mono ?_;rintro e w2 ⟨rfl,hb2⟩
      have HB2:=Lib.hid (HB1.out.trans (hb2.mono HB1.out.size));clear hb2
      try simp only []
      refine hK _ _ ?_;clear hK K
      try simp only [Act.put,List.getElem_toArray,List.getElem_cons_succ,List.getElem_cons_zero,List.setIfInBounds_toArray,List.set_cons_zero,List.set_cons_succ]
      refine wpAny_ready (rs:=[4]) (by kernel_rfl) (by simp) ?_
      refine AllReady.cons rfl (fun K hK=>?_) AllReady.nil
      simp only [List.getElem_toArray,List.getElem_cons_succ,List.getElem_cons_zero]
      rw [if_pos (by rfl)]
      refine wst88 w.heap.size 0 p s' ⟨_,_,rfl,rfl,rfl⟩ (there_keep T1.out HB2.out) ?_
      refine hK _ _ ?_;clear hK K
      try simp only [Act.put]
      refine wpAny_ready (rs:=[5]) (by kernel_rfl) (by simp) ?_
      refine AllReady.cons rfl (fun K hK=>?_) AllReady.nil
      simp only [List.getElem_toArray,List.getElem_cons_succ,List.getElem_cons_zero]
      rw [if_pos (by rfl)]
      refine wst88 (w.heap.size + 1) 0 q false ⟨_,_,rfl,rfl,rfl⟩ (World.there_setCells (there_keep T2.out HB2.out) _ _ _) ?_
      refine hK _ _ ?_;clear hK K
      try simp only [Act.put]
      refine wpAny_done (by kernel_rfl) ?_ _
      have A1:=Lib.hid (show ((w2.setCells w.heap.size 0 (sgL p s')).setCells (w.heap.size + 1) 0 (sgL q false)).rangeAt w.heap.size 0 (sgL p s') from range_setk (range_set (there_keep T1.out HB2.out) (by rw [sgL_len])) (by omega))
      have A2:=Lib.hid (show ((w2.setCells w.heap.size 0 (sgL p s')).setCells (w.heap.size + 1) 0 (sgL q false)).rangeAt (w.heap.size + 1) 0 (sgL q false) from range_set (World.there_setCells (there_keep T2.out HB2.out) _ _ _) (by rw [sgL_len]))
      have A3:=Lib.hid (show ((w2.setCells w.heap.size 0 (sgL p s')).setCells (w.heap.size + 1) 0 (sgL q false)).there (w.heap.size + 2) 0 62 from World.there_setCells (World.there_setCells (there_keep T.out HB2.out) _ _ _) _ _ _)
      have A4:=Lib.hid (below_set (below_set (B0.out.trans (HB2.out.mono B0.out.size)) (Nat.le_refl _) 0 (sgL p s')) (show w.heap.size <= w.heap.size + 1 by omega) 0 (sgL q false))
      go_wp2_with (first
        | ((with_reducible refine ld88 w.heap.size 0 p s' ?_ ?_ ?_);(· exact ⟨rfl,_,rfl,rfl⟩);· exact A1.out)
        | ((with_reducible refine ld88 (w.heap.size + 1) 0 q false ?_ ?_ ?_);(· exact ⟨rfl,_,rfl,rfl⟩);· exact A2.out)
        | ((with_reducible refine b115 p s' q false ?_ ?_);(· exact ⟨rfl,_,_,rfl,rfl,rfl⟩))
        | (go_at_call 115;(with_reducible refine (Cr.out _).mono ?_);rintro e w3 ⟨rfl,hb3⟩;have HB3:=Lib.hid hb3;clear hb3)
        | ((with_reducible refine st115 (w.heap.size + 2) 0 a b c false ?_ ?_ ?_);(· exact ⟨rfl,_,_,rfl,rfl,rfl⟩);· exact there_keep A3.out HB3.out))
      refine ret115 Tryz.results117 (w.heap.size + 2) 0 rfl a b c false (range_set (there_keep A3.out HB3.out) (by rw [frL_len])) rfl ⟨rfl,?_⟩
      exact below_set (A4.out.trans (HB3.out.mono A4.out.size)) (by omega) _ _
    refine AllReady.cons rfl (fun K hK=>?_) AllReady.nil
    simp only [List.getElem_toArray,List.getElem_cons_succ,List.getElem_cons_zero]
    rw [if_pos (by rfl)]
    refine wld88 (w.heap.size + 1) 0 q true ⟨_,rfl,rfl⟩ R2.out ?_
    refine hK _ _ ?_;clear hK K
    try simp only [Act.put,List.setIfInBounds_toArray,List.set_cons_zero,List.set_cons_succ]
    refine wpAny_ready (rs:=[1]) (by kernel_rfl) (by simp) ?_
    refine AllReady.cons rfl (fun K hK=>?_) AllReady.nil
    simp only [List.getElem_toArray,List.getElem_cons_succ,List.getElem_cons_zero]
    rw [if_pos (by rfl)]
    go_simp
    refine (C1.out _).mono ?_;rintro e w1 ⟨rfl,hb1⟩
    have HB1:=Lib.hid hb1;clear hb1
    try simp only []
    refine hK _ _ ?_;clear hK K
    try simp only [Act.put,List.getElem_toArray,List.getElem_cons_succ,List.getElem_cons_zero,List.setIfInBounds_toArray,List.set_cons_zero,List.set_cons_succ]
    refine wpAny_ready (rs:=[3]) (by kernel_rfl) (by simp) ?_
    refine AllReady.cons rfl (fun K hK=>?_) AllReady.nil
    simp only [List.getElem_toArray,List.getElem_cons_succ,List.getElem_cons_zero]
    rw [if_pos (by rfl)]
    go_simp
    refine (C2.out _).mono ?_;rintro e w2 ⟨rfl,hb2⟩
    have HB2:=Lib.hid (HB1.out.trans (hb2.mono HB1.out.size));clear hb2
    try simp only []
    refine hK _ _ ?_;clear hK K
    try simp only [Act.put,List.getElem_toArray,List.getElem_cons_succ,List.getElem_cons_zero,List.setIfInBounds_toArray,List.set_cons_zero,List.set_cons_succ]
    refine wpAny_ready (rs:=[4]) (by kernel_rfl) (by simp) ?_
    refine AllReady.cons rfl (fun K hK=>?_) AllReady.nil
    simp only [List.getElem_toArray,List.getElem_cons_succ,List.getElem_cons_zero]
    rw [if_pos (by rfl)]
    refine wst88 w.heap.size 0 p s' ⟨_,_,rfl,rfl,rfl⟩ (there_keep T1.out HB2.out) ?_
    refine hK _ _ ?_;clear hK K
    try simp only [Act.put]
    refine wpAny_ready (rs:=[5]) (by kernel_rfl) (by simp) ?_
    refine AllReady.cons rfl (fun K hK=>?_) AllReady.nil
    simp only [List.getElem_toArray,List.getElem_cons_succ,List.getElem_cons_zero]
    rw [if_pos (by rfl)]
    refine wst88 (w.heap.size + 1) 0 q false ⟨_,_,rfl,rfl,rfl⟩ (World.there_setCells (there_keep T2.out HB2.out) _ _ _) ?_
    refine hK _ _ ?_;clear hK K
    try simp only [Act.put]
    refine wpAny_done (by kernel_rfl) ?_ _
    have A1:=Lib.hid (show ((w2.setCells w.heap.size 0 (sgL p s')).setCells (w.heap.size + 1) 0 (sgL q false)).rangeAt w.heap.size 0 (sgL p s') from range_setk (range_set (there_keep T1.out HB2.out) (by rw [sgL_len])) (by omega))
    have A2:=Lib.hid (show ((w2.setCells w.heap.size 0 (sgL p s')).setCells (w.heap.size + 1) 0 (sgL q false)).rangeAt (w.heap.size + 1) 0 (sgL q false) from range_set (World.there_setCells (there_keep T2.out HB2.out) _ _ _) (by rw [sgL_len]))
    have A3:=Lib.hid (show ((w2.setCells w.heap.size 0 (sgL p s')).setCells (w.heap.size + 1) 0 (sgL q false)).there (w.heap.size + 2) 0 62 from World.there_setCells (World.there_setCells (there_keep T.out HB2.out) _ _ _) _ _ _)
    have A4:=Lib.hid (below_set (below_set (B0.out.trans (HB2.out.mono B0.out.size)) (Nat.le_refl _) 0 (sgL p s')) (show w.heap.size <= w.heap.size + 1 by omega) 0 (sgL q false))
    go_wp2_with (first
      | ((with_reducible refine ld88 w.heap.size 0 p s' ?_ ?_ ?_);(· exact ⟨rfl,_,rfl,rfl⟩);· exact A1.out)
      | ((with_reducible refine ld88 (w.heap.size + 1) 0 q false ?_ ?_ ?_);(· exact ⟨rfl,_,rfl,rfl⟩);· exact A2.out)
      | ((with_reducible refine b115 p s' q false ?_ ?_);(· exact ⟨rfl,_,_,rfl,rfl,rfl⟩))
      | (go_at_call 115;(with_reducible refine (Cr.out _).mono ?_);rintro e w3 ⟨rfl,hb3⟩;have HB3:=Lib.hid hb3;clear hb3)
      | ((with_reducible refine st115 (w.heap.size + 2) 0 a b c false ?_ ?_ ?_);(· exact ⟨rfl,_,_,rfl,rfl,rfl⟩);· exact there_keep A3.out HB3.out))
    refine ret115 Tryz.results117 (w.heap.size + 2) 0 rfl a b c false (range_set (there_keep A3.out HB3.out) (by rw [frL_len])) rfl ⟨rfl,?_⟩
    exact below_set (A4.out.trans (HB3.out.mono A4.out.size)) (by omega) _ _
  refine AllReady.cons rfl (fun K hK=>?_) AllReady.nil
  simp only [List.getElem_toArray,List.getElem_cons_succ,List.getElem_cons_zero]
  rw [if_pos (by rfl)]
  refine wld88 (w.heap.size + 1) 0 q true ⟨_,rfl,rfl⟩ R2.out ?_
  refine hK _ _ ?_;clear hK K
  try simp only [Act.put,List.setIfInBounds_toArray,List.set_cons_zero,List.set_cons_succ]
  refine wpAny_ready (rs:=[0]) (by kernel_rfl) (by simp) ?_
  refine AllReady.cons rfl (fun K hK=>?_) AllReady.nil
  simp only [List.getElem_toArray,List.getElem_cons_zero]
  rw [if_pos (by rfl)]
  refine wld88 w.heap.size 0 p s ⟨_,rfl,rfl⟩ R1.out ?_
  refine hK _ _ ?_;clear hK K
  try simp only [Act.put,List.setIfInBounds_toArray,List.set_cons_zero,List.set_cons_succ]
  refine wpAny_ready (rs:=[1]) (by kernel_rfl) (by simp) ?_
  refine AllReady.cons rfl (fun K hK=>?_) AllReady.nil
  simp only [List.getElem_toArray,List.getElem_cons_succ,List.getElem_cons_zero]
  rw [if_pos (by rfl)]
  go_simp
  refine (C1.out _).mono ?_;rintro e w1 ⟨rfl,hb1⟩
  have HB1:=Lib.hid hb1;clear hb1
  try simp only []
  refine hK _ _ ?_;clear hK K
  try simp only [Act.put,List.getElem_toArray,List.getElem_cons_succ,List.getElem_cons_zero,List.setIfInBounds_toArray,List.set_cons_zero,List.set_cons_succ]
  refine wpAny_ready (rs:=[3]) (by kernel_rfl) (by simp) ?_
  refine AllReady.cons rfl (fun K hK=>?_) AllReady.nil
  simp only [List.getElem_toArray,List.getElem_cons_succ,List.getElem_cons_zero]
  rw [if_pos (by rfl)]
  go_simp
  refine (C2.out _).mono ?_;rintro e w2 ⟨rfl,hb2⟩
  have HB2:=Lib.hid (HB1.out.trans (hb2.mono HB1.out.size));clear hb2
  try simp only []
  refine hK _ _ ?_;clear hK K
  try simp only [Act.put,List.getElem_toArray,List.getElem_cons_succ,List.getElem_cons_zero,List.setIfInBounds_toArray,List.set_cons_zero,List.set_cons_succ]
  refine wpAny_ready (rs:=[4]) (by kernel_rfl) (by simp) ?_
  refine AllReady.cons rfl (fun K hK=>?_) AllReady.nil
  simp only [List.getElem_toArray,List.getElem_cons_succ,List.getElem_cons_zero]
  rw [if_pos (by rfl)]
  refine wst88 w.heap.size 0 p s' ⟨_,_,rfl,rfl,rfl⟩ (there_keep T1.out HB2.out) ?_
  refine hK _ _ ?_;clear hK K
  try simp only [Act.put]
  refine wpAny_ready (rs:=[5]) (by kernel_rfl) (by simp) ?_
  refine AllReady.cons rfl (fun K hK=>?_) AllReady.nil
  simp only [List.getElem_toArray,List.getElem_cons_succ,List.getElem_cons_zero]
  rw [if_pos (by rfl)]
  refine wst88 (w.heap.size + 1) 0 q false ⟨_,_,rfl,rfl,rfl⟩ (World.there_setCells (there_keep T2.out HB2.out) _ _ _) ?_
  refine hK _ _ ?_;clear hK K
  try simp only [Act.put]
  refine wpAny_done (by kernel_rfl) ?_ _
  have A1:=Lib.hid (show ((w2.setCells w.heap.size 0 (sgL p s')).setCells (w.heap.size + 1) 0 (sgL q false)).rangeAt w.heap.size 0 (sgL p s') from range_setk (range_set (there_keep T1.out HB2.out) (by rw [sgL_len])) (by omega))
  have A2:=Lib.hid (show ((w2.setCells w.heap.size 0 (sgL p s')).setCells (w.heap.size + 1) 0 (sgL q false)).rangeAt (w.heap.size + 1) 0 (sgL q false) from range_set (World.there_setCells (there_keep T2.out HB2.out) _ _ _) (by rw [sgL_len]))
  have A3:=Lib.hid (show ((w2.setCells w.heap.size 0 (sgL p s')).setCells (w.heap.size + 1) 0 (sgL q false)).there (w.heap.size + 2) 0 62 from World.there_setCells (World.there_setCells (there_keep T.out HB2.out) _ _ _) _ _ _)
  have A4:=Lib.hid (below_set (below_set (B0.out.trans (HB2.out.mono B0.out.size)) (Nat.le_refl _) 0 (sgL p s')) (show w.heap.size <= w.heap.size + 1 by omega) 0 (sgL q false))
  go_wp2_with (first
    | ((with_reducible refine ld88 w.heap.size 0 p s' ?_ ?_ ?_);(· exact ⟨rfl,_,rfl,rfl⟩);· exact A1.out)
    | ((with_reducible refine ld88 (w.heap.size + 1) 0 q false ?_ ?_ ?_);(· exact ⟨rfl,_,rfl,rfl⟩);· exact A2.out)
    | ((with_reducible refine b115 p s' q false ?_ ?_);(· exact ⟨rfl,_,_,rfl,rfl,rfl⟩))
    | (go_at_call 115;(with_reducible refine (Cr.out _).mono ?_);rintro e w3 ⟨rfl,hb3⟩;have HB3:=Lib.hid hb3;clear hb3)
    | ((with_reducible refine st115 (w.heap.size + 2) 0 a b c false ?_ ?_ ?_);(· exact ⟨rfl,_,_,rfl,rfl,rfl⟩);· exact there_keep A3.out HB3.out))
  refine ret115 Tryz.results117 (w.heap.size + 2) 0 rfl a b c false (range_set (there_keep A3.out HB3.out) (by rw [frL_len])) rfl ⟨rfl,?_⟩
  exact below_set (A4.out.trans (HB3.out.mono A4.out.size)) (by omega) _ _
def ratS (p : Nat) (s t : Bool) : Bool:=if t then (!s && !decide (p = 0)) else s
theorem ratio_any (p : Nat) (s : Bool) (q : Nat) (t : Bool) (hp : p < bb ^ 29) (hq : q < bb ^ 29) (h0 : 0 < q) (w : World) :
    Calls Tryz.prog 117 #[.agg (sgL p s).toArray,.agg (sgL q t).toArray] w fun e w'=>e = .returned (.agg (frL (p / Nat.gcd p q) (ratS p s t && !decide (p / Nat.gcd p q = 0)) (q / Nat.gcd p q) false).toArray)/\Below w.heap.size w w':=by
  cases t
  · exact ratio_pos p s q hp hq h0 w
  · exact ratio_neg p s q hp hq h0 w
end
end Go.Proofs.YtpbegoflpfdajaaGreatDoor
/- WHAT IS PROVED: contracts of functions of the numbers package and laws for them, used by the last text of this claim. CONDITIONS: stated at each theorem. -/
import Derived.Test.YtpbegoflpfdajaaGreatDoorB15
import Derived.Test.YtpbegoflpfdajaaGreatDoorB12
namespace Go.Proofs.YtpbegoflpfdajaaGreatDoor
section
open Go.RowKit
def nw1 (w : World) (a : Nat) : World:=(w.alloc (.cells (mgL 0).toArray 86)).setCells w.heap.size 0 (mgL a)
theorem nw1_old (w : World) (a : Nat) : Below w.heap.size w (nw1 w a):=below_set ((Below.refl _ _).alloc (Nat.le_refl _) _) (Nat.le_refl _) _ _
theorem nw1_at (w : World) (a : Nat) : (nw1 w a).rangeAt w.heap.size 0 (mgL a):=range_set (there_at rfl _ 86 (by rw [mgL_len])) (by rw [mgL_len])
theorem nw1_size (w : World) (a : Nat) : (nw1 w a).heap.size = w.heap.size + 1:=by unfold nw1;simp [size_setCells]
set_option maxHeartbeats 4000000 in
set_option maxRecDepth 20000 in
theorem divLong_any (m o : Nat) (hm : m < bb ^ 29) (ho : o < bb ^ 30) (h2 : 2 <= lsz o) (hge : o <= m) (w : World) :
    Calls Tryz.prog 197 #[.agg (mgL m).toArray,.agg (mgL o).toArray] w fun e w'=>e = .returned (.tuple #[.agg (mgL (m / o)).toArray,.agg (mgL (m % o)).toArray])/\Below w.heap.size w w':=by
  have hm30 : m < bb ^ 30:=Nat.lt_of_lt_of_le hm (pow_mono (by omega))
  obtain ⟨s,hs⟩ : ∃ s,lsz o = s:=⟨_,rfl⟩
  have hos : o < bb ^ s:=by rw [<- hs];exact lsz_lt o
  have ho1 : bb ^ (s - 1) <= o:=by rw [<- hs];exact lsz_top (fun h=>by subst h;rw [lsz_zero] at h2;omega)
  have hs30 : s <= 30:=by rw [<- hs];exact (lsz_le_iff 30 o).2 ho
  rw [hs] at h2
  have htp : 0 < lim o (s - 1):=top_pos h2 ho1 hos
  have hsl:=scale_lt (show 1 <= s by omega) hos
  have hd0:=scale_pos (o:=o) (k:=s - 1)
  have btp:=lim_lt' o (s - 1)
  obtain ⟨a,ha⟩ : ∃ a,s - 1 = a:=⟨_,rfl⟩
  have has : a + 1 = s:=by omega
  have i1 : (s : Int) - 1 = (a : Int):=by omega
  rw [ha] at htp hsl hd0 btp
  have gtp:=mgL_get (n:=o) (i:=a) (by omega)
  obtain ⟨tp,htpe⟩ : ∃ tp,lim o a = tp:=⟨_,rfl⟩
  rw [htpe] at htp hsl hd0 btp gtp
  obtain ⟨d,hd⟩ : ∃ d,bb / (tp + 1) = d:=⟨_,rfl⟩
  rw [hd] at hsl hd0
  have hd2 : d < bb:=by rw [<- hd];exact Nat.div_lt_self bb_pos (by omega)
  have idiv : (1000000000 : Int) / ((tp : Int) + 1) = (d : Int):=by rw [<- hd];rfl
  have itp : ((tp : Int) + 1 == 0) = false:=by simp;omega
  have hd9 : d < 1000000000:=hd2
  have hM30 : m * d < bb ^ 30:=Nat.lt_of_lt_of_le (Nat.mul_lt_mul'' hm hd2) (by rw [<- Nat.pow_succ];exact Nat.le_refl _)
  have hv1 : bb ^ a <= o * d:=by rw [<- ha];exact Nat.le_trans ho1 (Nat.le_mul_of_pos_right _ hd0)
  have hdiv:=div_scale m o d hd0
  have hmod:=mod_scale m o d hd0
  have hMv : o * d <= m * d:=Nat.mul_le_mul_right _ hge
  have hv30 : o * d < bb ^ 30:=Nat.lt_of_lt_of_le hsl (pow_mono hs30)
  have hd30 : d < bb ^ 30:=Nat.lt_of_lt_of_le (show d < bb ^ 1 by rw [Nat.pow_one];exact hd2) (pow_mono (by omega))
  have cs:=fun w=>size_any o ho w
  rw [hs] at cs
  have Cs:=Lib.hid cs
  have Cd:=Lib.hid (fun w=>small_any d hd2 w)
  have C1:=Lib.hid (fun w=>timesM_any m d hm30 hd30 hM30 w)
  have C2:=Lib.hid (fun w=>timesM_any o d ho hd30 hv30 w)
  have C3:=Lib.hid (fun w=>size_any (m * d) hM30 w)
  obtain ⟨M,hMe⟩ : ∃ M,m * d = M:=⟨_,rfl⟩
  obtain ⟨v,hve⟩ : ∃ v,o * d = v:=⟨_,rfl⟩
  rw [hMe] at C1 C3 hM30 hdiv hmod hMv
  rw [hve] at C2 hsl hv1 hdiv hmod hMv hv30
  have hv0 : 0 < v:=Nat.lt_of_lt_of_le (bb_pow_pos a) hv1
  have hsM : s <= lsz M:=by
    apply Nat.le_of_not_lt;intro hlt
    have h1:=lsz_lt M
    have h2 : bb ^ lsz M <= bb ^ a:=pow_mono (by omega)
    omega
  have hlM : lsz M <= 30:=(lsz_le_iff 30 M).2 hM30
  obtain ⟨last,hlast⟩ : ∃ l,lsz M - s = l:=⟨_,rfl⟩
  have il : (lsz M : Int) - (s : Int) = (last : Int):=by omega
  have hMl : M < v * bb ^ (last + 1):=by
    refine Nat.lt_of_lt_of_le (lsz_lt M) ?_
    refine Nat.le_trans ?_ (Nat.mul_le_mul_right _ hv1)
    rw [<- Nat.pow_add];exact pow_mono (by omega)
  have hls : last + s <= 30:=by omega
  obtain ⟨lM,hlMe⟩ : ∃ l,lsz M = l:=⟨_,rfl⟩
  rw [hlMe] at C3 il
  have Hr0:=Lib.hid (show ((((w.alloc (.cells (mgL m).toArray 86)).alloc (.cells (mgL o).toArray 86)).alloc (.cells (mgL 0).toArray 86)).alloc (.cells (mgL 0).toArray 86)).rangeAt w.heap.size 0 (mgL m) from World.rangeAt_alloc (World.rangeAt_alloc (World.rangeAt_alloc (range_new w _ 86) _) _) _)
  have Hr1:=Lib.hid (show ((((w.alloc (.cells (mgL m).toArray 86)).alloc (.cells (mgL o).toArray 86)).alloc (.cells (mgL 0).toArray 86)).alloc (.cells (mgL 0).toArray 86)).rangeAt (w.heap.size + 1) 0 (mgL o) from World.rangeAt_alloc (World.rangeAt_alloc (range_at (by simp) _ 86) _) _)
  have Ht2:=Lib.hid (show ((((w.alloc (.cells (mgL m).toArray 86)).alloc (.cells (mgL o).toArray 86)).alloc (.cells (mgL 0).toArray 86)).alloc (.cells (mgL 0).toArray 86)).there (w.heap.size + 2) 0 30 from World.there_alloc (there_at (by simp) _ 86 (by rw [mgL_len])) _)
  have Ht3:=Lib.hid (show ((((w.alloc (.cells (mgL m).toArray 86)).alloc (.cells (mgL o).toArray 86)).alloc (.cells (mgL 0).toArray 86)).alloc (.cells (mgL 0).toArray 86)).there (w.heap.size + 3) 0 30 from there_at (by simp) _ 86 (by rw [mgL_len]))
  have Hb:=Lib.hid (show Below w.heap.size w ((((w.alloc (.cells (mgL m).toArray 86)).alloc (.cells (mgL o).toArray 86)).alloc (.cells (mgL 0).toArray 86)).alloc (.cells (mgL 0).toArray 86)) from ((((Below.refl w.heap.size w).alloc (Nat.le_refl _) _).alloc (by simp) _).alloc (by simp;omega) _).alloc (by simp;omega) _)
  have Hsz:=Lib.hid (show ((((w.alloc (.cells (mgL m).toArray 86)).alloc (.cells (mgL o).toArray 86)).alloc (.cells (mgL 0).toArray 86)).alloc (.cells (mgL 0).toArray 86)).heap.size = w.heap.size + 4 by simp)
  have Hs30:=Lib.hid hs30
  have HM:=Lib.hid hM30;have Hv:=Lib.hid hsl;have Hv1:=Lib.hid hv1;have Hdiv:=Lib.hid hdiv;have Hmod:=Lib.hid hmod;have HMl:=Lib.hid hMl;have Hv0:=Lib.hid hv0
  have Hd2:=Lib.hid hd2
  clear hm ho hs hos ho1 ha htpe hd hM30 hv1 hdiv hmod hMv hv30 hd30 cs hMe hve hMl hsl hm30 hge hd2 hv0 hlMe
  go_enter Tryz.func197,Tryz.ntmps197
  go_wp2_with (first
    | ((with_reducible refine al_zb 86 _ (w.heap.size + 2) ?_ ?_ z86 ?_);(· exact ⟨rfl,rfl⟩);· (simp;done))
    | ((with_reducible refine al_zb 86 _ (w.heap.size + 3) ?_ ?_ z86 ?_);(· exact ⟨rfl,rfl⟩);· (simp;done))
    | ((with_reducible refine ld86 (w.heap.size + 1) 0 o ?_ ?_ ?_);(· exact ⟨rfl,_,rfl,rfl⟩);· exact Hr1.out)
    | (go_at_call 159;(with_reducible refine (Cs.out _).mono ?_);rintro e w1 ⟨rfl,hb1⟩;have HB1:=Lib.hid hb1;have hc1:=cell_of_range (range_keep Hr1.out hb1) gtp;clear hb1)
    | (go_at_call 94;(with_reducible refine (Cd.out _).mono ?_);rintro e w2 ⟨rfl,hb2⟩;have HB2:=Lib.hid (HB1.out.trans ((hb2.trans ((nw1_old w2 d).mono hb2.size)).mono HB1.out.size));have R7:=Lib.hid (nw1_at w2 d);have Z2:=Lib.hid (Nat.le_trans HB1.out.size hb2.size);clear hb2)
    | ((with_reducible refine al_zb 86 _ w2.heap.size ?_ ?_ z86 ?_);(· exact ⟨rfl,rfl⟩);· rfl)
    | ((with_reducible refine st86 w2.heap.size 0 d ?_ ?_ ?_);(· exact ⟨rfl,_,_,rfl,rfl,rfl⟩);· exact there_at rfl _ 86 (by rw [mgL_len]))
    | ((with_reducible refine ld86 w.heap.size 0 m ?_ ?_ ?_);(· exact ⟨rfl,_,rfl,rfl⟩);· exact range_keep Hr0.out HB2.out)
    | ((with_reducible refine ld86 w2.heap.size 0 d ?_ ?_ ?_);(· exact ⟨rfl,_,rfl,rfl⟩);· first | exact R7.out | exact range_keep R7.out J3.out)
    | (go_at_call 151;(with_reducible refine (C1.out _).mono ?_);rintro e w3 ⟨rfl,hb3⟩;have J3:=Lib.hid (hb3.trans ((nwE_old w3 M s).mono hb3.size));have HB3:=Lib.hid (HB2.out.trans (J3.out.mono HB2.out.size));have Z3:=Lib.hid hb3.size;have HX3:=Lib.hid (nwE_xs w3 M s HM.out);have HT3:=Lib.hid (nwE_there w3 M s);have R8:=Lib.hid (nwE_at w3 M s);clear hb3 C1)
    | ((with_reducible refine al_zb 86 _ w3.heap.size ?_ ?_ z86 ?_);(· exact ⟨rfl,rfl⟩);· rfl)
    | ((with_reducible refine st86 w3.heap.size 0 M ?_ ?_ ?_);(· exact ⟨rfl,_,_,rfl,rfl,rfl⟩);· exact there_at rfl _ 86 (by rw [mgL_len]))
    | ((with_reducible refine mk220 (w3.heap.size + 1) 31 31 ?_ ?_ ?_ ?_ ?_);(· exact ⟨rfl,_,_,rfl,rfl,rfl⟩);(· rfl);(· exact (nw1_size w3 M).symm);(· omega))
    | ((with_reducible refine cp220 (w3.heap.size + 1) 0 31 31 w3.heap.size 0 30 30 (mgL M) 30 ?_ (mgL_len M) rfl ?_ ?_ (mgL_one M) ?_);(· exact ⟨rfl,_,_,rfl,rfl,rfl⟩);(· exact World.rangeAt_alloc (nw1_at w3 M) _);(· intro j hj;have hx:=made_there (nw1 w3 M) 31 j (by omega);rw [nw1_size] at hx;exact hx))
    | ((with_reducible refine mk220 (w3.heap.size + 2) s (s : Nat) ?_ ?_ ?_ ?_ ?_);(· exact ⟨rfl,_,_,rfl,rfl,rfl⟩);(· rfl);(· simp [size_setCells];done);(· have:=Hs30.out;omega))
    | ((with_reducible refine ld86 (w.heap.size + 1) 0 o ?_ ?_ ?_);(· exact ⟨rfl,_,rfl,rfl⟩);· exact range_keep Hr1.out HB3.out)
    | (go_at_call 151;(with_reducible refine (C2.out _).mono ?_);rintro e w4 ⟨rfl,hb4⟩;have Z4:=Lib.hid (show w3.heap.size + 3 <= w4.heap.size by have hz : (nwE w3 M s).heap.size <= w4.heap.size:=hb4.size;rw [nwE_size] at hz;exact hz);have J4:=Lib.hid (show Below (nwE w3 M s).heap.size (nwE w3 M s) w4 from hb4);clear hb4 C2)
    | ((with_reducible refine al_zb 86 _ w4.heap.size ?_ ?_ z86 ?_);(· exact ⟨rfl,rfl⟩);· rfl)
    | ((with_reducible refine st86 w4.heap.size 0 v ?_ ?_ ?_);(· exact ⟨rfl,_,_,rfl,rfl,rfl⟩);· exact there_at rfl _ 86 (by rw [mgL_len]))
    | ((with_reducible refine cp220 (w3.heap.size + 2) 0 s s w4.heap.size 0 30 30 ((mgL v).take s) s ?_ (take_len Hs30.out) ?_ ?_ ?_ (fun x hx=>mgL_one v x (List.mem_of_mem_take hx)) ?_);(· exact ⟨rfl,_,_,rfl,rfl,rfl⟩);(· exact (Nat.min_eq_right Hs30.out).symm);(· exact range_left (cs:=(mgL v).take s) (ds:=(mgL v).drop s) (by rw [List.take_append_drop];exact nw1_at w4 v));(· exact World.there_setCells (World.there_alloc (there_keep HT3.out J4.out) _) _ _ _))
    | ((with_reducible refine al_zb 86 _ (w4.heap.size + 1) ?_ ?_ z86 ?_);(· exact ⟨rfl,rfl⟩);· (simp [size_setCells];done))
    | ((with_reducible refine ld86 w3.heap.size 0 M ?_ ?_ ?_);(· exact ⟨rfl,_,rfl,rfl⟩);· exact nwF_range (hh:=w3.heap.size + 2) (v:=v) (s:=s) (range_keep R8.out J4.out) (by omega) (by have:=Z4.out;omega))
    | (go_at_call 159;(with_reducible refine (C3.out _).mono ?_);rintro e w5 ⟨rfl,hb5⟩;have HB5:=Lib.hid hb5;clear hb5))
  have z2 : w.heap.size + 4 <= w2.heap.size:=by have h1:=Z2.out;rw [Hsz.out] at h1;exact h1
  have z3 : w2.heap.size + 1 <= w3.heap.size:=by have h1 : (nw1 w2 d).heap.size <= w3.heap.size:=Z3.out;rw [nw1_size] at h1;exact h1
  have z4 : w3.heap.size + 3 <= w4.heap.size:=Z4.out
  have hF : Below (nwF w4 v (w3.heap.size + 2) s).heap.size (nwF w4 v (w3.heap.size + 2) s) w5:=HB5.out
  have z5 : w4.heap.size + 2 <= w5.heap.size:=by have h1:=hF.size;rw [nwF_size] at h1;exact h1
  have K5 : Below w.heap.size w w5:=Hb.out.trans ((HB3.out.mono (by rw [Hsz.out];omega)).trans ((J4.out.mono (by rw [nwE_size];omega)).trans ((nwF_below (by omega) (by omega)).trans (hF.mono (by rw [nwF_size];omega)))))
  have K5' : Below ((((w.alloc (.cells (mgL m).toArray 86)).alloc (.cells (mgL o).toArray 86)).alloc (.cells (mgL 0).toArray 86)).alloc (.cells (mgL 0).toArray 86)).heap.size ((((w.alloc (.cells (mgL m).toArray 86)).alloc (.cells (mgL o).toArray 86)).alloc (.cells (mgL 0).toArray 86)).alloc (.cells (mgL 0).toArray 86)) w5:=HB3.out.trans ((J4.out.mono (by rw [nwE_size,Hsz.out];omega)).trans ((nwF_below (by rw [Hsz.out];omega) (by rw [Hsz.out];omega)).trans (hF.mono (by rw [nwF_size,Hsz.out];omega))))
  have D5 : Dv w w2.heap.size (w3.heap.size + 2) d v s w5:=⟨K5,there_keep Ht2.out K5',there_keep Ht3.out K5',
    range_keep (nwF_range (range_keep (range_keep R7.out J3.out) J4.out) (by omega) (by omega)) hF,cells_keep (nwF_cells (there_keep HT3.out J4.out) Hs30.out) hF⟩
  have X5 : Xs M M 0 (w3.heap.size + 1) w5:=(nwF_xs (HX3.out.keep J4.out) (by omega) (by omega)).keep hF
  have Q5 : w5.rangeAt (w4.heap.size + 1) 0 (mgL 0):=range_keep nwF_quot.1 hF
  have QT5 : w5.there (w4.heap.size + 1) 0 30:=there_keep nwF_quot.2 hF
  clear hF K5 K5' HB5 HB3 HB2 HB1 J4 J3 R7 R8 HT3 HX3 Z2 Z3 Z4 Ht2 Ht3 Hb Hr0 Hr1 Cs C3 Cd hc1
  have hQ : M / v < bb ^ (last + 1):=(Nat.div_lt_iff_lt_mul Hv0.out).2 (by rw [Nat.mul_comm];exact HMl.out)
  have Q5' : w5.rangeAt (w4.heap.size + 1) 0 (mixL 0 (M / v) (last + 1)):=by
    rw [show mixL 0 (M / v) (last + 1) = mgL 0 from list30 (mixL_len ..) (mgL_len _) fun i hi=>by
      rw [mixL_get _ _ _ hi,mgL_get hi]
      by_cases h : i < last + 1
      · rw [if_pos h]
      · rw [if_neg h,lim_of_lt' hQ (by omega),lim_zero]]
    exact Q5
  have X5' : Xs (rem M v (last + 1)) (rem M v (last + 1)) 0 (w3.heap.size + 1) w5:=by rw [rem_all HMl.out];exact X5
  have HD5:=Lib.hid D5;have HX5:=Lib.hid X5';have HQ5:=Lib.hid Q5';have HQT5:=Lib.hid QT5
  have o1 : w2.heap.size < w3.heap.size + 1:=by omega
  have o2 : w3.heap.size + 2 < w4.heap.size + 1:=by omega
  have o3 : w.heap.size + 4 <= w3.heap.size + 1:=by omega
  have o5 : w2.heap.size < w4.heap.size + 1:=by omega
  have o6 : w3.heap.size + 1 < w4.heap.size + 1:=by omega
  have o7 : w4.heap.size + 1 < w5.heap.size:=by omega
  have o8 : w3.heap.size + 1 < w3.heap.size + 2:=by omega
  clear D5 X5 X5' Q5 Q5' QT5 z2 z3 z4 z5 hQ
  generalize w2.heap.size = b7 at *
  generalize w4.heap.size + 1 = bq at *
  generalize w3.heap.size + 1 = g at *
  generalize w3.heap.size + 2 = h at *
  go_loopw [51] (fun i wr=>∃ k : Nat,k <= last + 1/\i = .int .i64 k/\Xs (rem M v (last + 1 - k)) (rem M v (last + 1 - k)) 0 g wr/\wr.rangeAt bq 0 (mixL 0 (M / v) (last + 1 - k))/\wr.there bq 0 30/\Dv w b7 h d v s wr/\w5.heap.size = wr.heap.size) (fun i _=>last + 1 - (intOf i).toNat)
  case atStart=>exact ⟨0,by omega,rfl,HX5.out,HQ5.out,HQT5.out,HD5.out,rfl⟩
  case round =>
    obtain ⟨k,hk,rfl,hX,hQ,hQT,hD,hsz⟩:=hrel
    by_cases hlt : k < last + 1
    · obtain ⟨c,hc⟩ : ∃ c,last - k = c:=⟨_,rfl⟩
      rw [show last + 1 - k = c + 1 by omega] at hX hQ
      have ic : (last : Int) - (k : Int) = (c : Int):=by omega
      have HX:=Lib.hid hX;have HQ:=Lib.hid hQ;have HQT:=Lib.hid hQT;have HD:=Lib.hid hD
      clear hX hQ hQT hD
      have cg:=guess_any (rem M v (c + 1)) v c s g h (31 - c) s h2 (by omega) (by rw [show s - 1 = a by omega];exact Hv1.out) Hv.out (rem_rest Hv0.out) wr HX.out HD.out.dv
      have CG:=Lib.hid cg;clear cg
      obtain ⟨q,hqe⟩ : ∃ q,lim (M / v) c = q:=⟨_,rfl⟩
      have hq9:=lim_lt' (M / v) c
      rw [hqe] at hq9
      have cq:=cell_of_range HQ.out (mixL_get 0 (M / v) (c + 1) (i:=c) (by omega))
      have fq:=(HQT.out c (by omega)).2
      rw [Nat.zero_add] at fq
      have hqm:=mixL_down 0 (M / v) c (by omega)
      rw [hqe] at hqm
      go_wp2_with fail
      refine (CG.out).mono ?_
      rintro e w6 ⟨D,rfl,⟨hD9,hDv,hDu⟩,n,rfl⟩
      have hcase:=guess_q Hv0.out hDv hDu
      rw [rem_digit Hv0.out,hqe] at hcase
      have c3:=subProd_any (rem M v (c + 1)) D v c s g h (31 - c) s (by omega) Hv.out hD9 (rem_small Hv0.out Hv.out) (by omega) (wr.drewN n) HX.out.drewN HD.out.drewN.dv
      have hD10 : D < 1000000000:=hD9
      rcases hcase with hDq | hDq
      · obtain ⟨hno,_⟩:=digit_ok (M:=M) (c:=c) Hv0.out (hDq.trans hqe.symm)
        rw [show decide (rem M v (c + 1) / bb ^ c < D * v) = false from by simpa using hno] at c3
        have C3:=Lib.hid c3
        have HDq:=Lib.hid hDq;have Hqe:=Lib.hid hqe;have Hqm:=Lib.hid hqm
        clear c3 hno hDq hqe hDv hDu hqm
        go_wp2_with (first
          | (go_at_call 213;(with_reducible refine (C3.out).mono ?_);rintro e w7 ⟨rfl,hX7,hO7⟩;have HX7:=Lib.hid hX7;have HO7:=Lib.hid hO7;have cq7:=(hO7.cell (p:=⟨bq,c,none⟩) (show bq ≠ g by omega)).trans cq;have fq7:=(hO7.frozen (p:=⟨bq,c,none⟩) (show bq ≠ g by omega)).trans fq;clear hX7 hO7))
        go_roundw
        case rel =>
          refine ⟨k + 1,by omega,by go_num,?_,?_,there_setCell (HO7.out.there (by omega) HQT.out) _ _,((HD.out.drewN.oth HO7.out (by omega) (by omega) (by omega)).oth ((Oth.refl bq w7).set c _) (by omega) (by omega) (by omega)),?_⟩
          · rw [show last + 1 - (k + 1) = c by omega]
            exact (step_ok Hv0.out Hv.out (HDq.out.trans Hqe.out.symm) HX7.out).oth ((Oth.refl bq w7).set c _) (by omega)
          · rw [show last + 1 - (k + 1) = c by omega,<- Hqm.out]
            have hr:=range_setCell (HO7.out.range (show bq ≠ g by omega) HQ.out) c (.int .u32 q) (by rw [mixL_len];omega)
            have e : Value.int IntKind.u32 q = .int .u32 D:=by rw [HDq.out]
            rw [e] at hr ⊢
            exact hr
          · have:=HO7.out.size
            simpa using hsz.trans this.symm
        case measure=>simp [intOf];omega
      · obtain ⟨hno,_⟩:=digit_over (M:=M) (c:=c) (D:=D) Hv0.out (by rw [hqe];exact hDq)
        rw [show decide (rem M v (c + 1) / bb ^ c < D * v) = true from by simpa using hno] at c3
        have C3:=Lib.hid c3
        have HDq:=Lib.hid (show D = lim (M / v) c + 1 by rw [hqe];exact hDq)
        have Hqm:=Lib.hid hqm
        have iD : (D : Int) - 1 = (q : Int):=by omega
        have HD9:=Lib.hid hD9
        clear c3 hno hDq hqe hDv hDu hqm
        go_wp2_with (first
          | (go_at_call 213;(with_reducible refine (C3.out).mono ?_);rintro e w7 ⟨rfl,hX7,hO7⟩;have HX7:=Lib.hid (step_over Hv0.out Hv.out HD9.out HDq.out hX7);have HO7:=Lib.hid hO7;have C4:=Lib.hid (addBack_any (tk (rem M v (c + 1)) D v c s) v c s g h (31 - c) s (by omega) Hv.out (by omega) w7 HX7.out (HD.out.drewN.oth hO7 (by omega) (by omega) (by omega)).dv);clear hX7 hO7)
          | (go_at_call 214;(with_reducible refine (C4.out).mono ?_);rintro e w8 ⟨rfl,hX8,hO8⟩;have HX8:=Lib.hid hX8;have HO8:=Lib.hid (HO7.out.trans hO8);have cq8:=(HO8.out.cell (p:=⟨bq,c,none⟩) (show bq ≠ g by omega)).trans cq;have fq8:=(HO8.out.frozen (p:=⟨bq,c,none⟩) (show bq ≠ g by omega)).trans fq;clear hX8 hO8))
        go_roundw
        case rel =>
          refine ⟨k + 1,by omega,by go_num,?_,?_,there_setCell (HO8.out.there (by omega) HQT.out) _ _,((HD.out.drewN.oth HO8.out (by omega) (by omega) (by omega)).oth ((Oth.refl bq w8).set c _) (by omega) (by omega) (by omega)),?_⟩
          · rw [show last + 1 - (k + 1) = c by omega]
            exact (step_back Hv0.out Hv.out HD9.out HDq.out HX8.out).oth ((Oth.refl bq w8).set c _) (by omega)
          · rw [show last + 1 - (k + 1) = c by omega,<- Hqm.out]
            exact range_setCell (HO8.out.range (show bq ≠ g by omega) HQ.out) c (.int .u32 q) (by rw [mixL_len];omega)
          · have:=HO8.out.size
            simpa using hsz.trans this.symm
        case measure=>simp [intOf];omega
    · obtain rfl : k = last + 1:=by omega
      rw [Nat.sub_self] at hX hQ
      rw [mixL_zero] at hQ
      have hX0 : M % v < bb ^ 30:=Nat.lt_of_le_of_lt (Nat.mod_le _ _) HM.out
      rw [rem_zero] at hX
      have hXr : wr.rangeAt g 0 (mgL (M % v)):=fun j u hu=>by
        have hj : j < 30:=by have:=(List.getElem?_eq_some_iff.1 hu).1;rw [mgL_len] at this;exact this
        rw [mgL_get hj] at hu
        have:=hX.at (j:=j) (by omega) (Nat.zero_le _)
        rw [Nat.zero_add,this];exact hu
      have cdl:=fun w=>divLimb_any (M % v) d hX0 hd0 Hd2.out w
      rw [Hmod.out] at cdl
      rw [Hdiv.out] at hQ
      obtain ⟨X0,hX0e⟩ : ∃ X,M % v = X:=⟨_,rfl⟩
      rw [hX0e] at cdl hXr
      obtain ⟨r2,hr2⟩ : ∃ r,X0 % d = r:=⟨_,rfl⟩
      rw [hr2] at cdl
      have CL:=Lib.hid cdl;have HXr:=Lib.hid hXr;have HQ:=Lib.hid hQ;have HQT:=Lib.hid hQT;have HD:=Lib.hid hD
      have Hld:=Lib.hid (show lim d 0 = d from lim_small Hd2.out)
      clear hX hQ hQT hD cdl hXr hX0 hX0e hr2
      go_wp2_with (first
        | ((with_reducible refine al_zb 86 _ wr.heap.size ?_ ?_ z86 ?_);(· exact ⟨rfl,rfl⟩);· rfl)
        | ((with_reducible refine cp220 wr.heap.size 0 30 30 g 0 31 31 (mgL X0) 30 ?_ (mgL_len X0) rfl ?_ ?_ (mgL_one X0) ?_);(· exact ⟨rfl,_,_,rfl,rfl,rfl⟩);(· exact World.rangeAt_alloc HXr.out _);(· exact there_at rfl _ 86 (by rw [mgL_len]);done);(have hcl:=cell_of_range (b:=b7) (range_setk (b2:=wr.heap.size) (o2:=0) (vs:=mgL X0) (World.rangeAt_alloc HD.out.sc (.cells (mgL 0).toArray 86)) (by omega)) (mgL_get (n:=d) (i:=0) (by omega));rw [Hld.out] at hcl))
        | ((with_reducible refine ld86 wr.heap.size 0 X0 ?_ ?_ ?_);(· exact ⟨rfl,_,rfl,rfl⟩);· exact nw1_at wr X0)
        | (go_at_call 196;(with_reducible refine (CL.out _).mono ?_);rintro e w9 ⟨rfl,hb9⟩;have HB9:=Lib.hid (show Below (nw1 wr X0).heap.size (nw1 wr X0) w9 from hb9);clear hb9 CL)
        | ((with_reducible refine st86 wr.heap.size 0 (m % o) ?_ ?_ ?_);(· exact ⟨rfl,_,_,rfl,rfl,rfl⟩);· exact there_keep (World.there_setCells (there_at rfl _ 86 (by rw [mgL_len])) _ _ _) HB9.out))
      try simp only [Act.put]
      have hD1:=HD.out.below.trans ((nw1_old wr X0).mono HD.out.below.size)
      have hD2:=hD1.trans (HB9.out.mono hD1.size)
      have hz9:=HB9.out.size
      rw [nw1_size] at hz9
      have hwr:=HD.out.below.size
      have HBx:=Lib.hid (below_set hD2 (show w.heap.size <= wr.heap.size from hwr) 0 (mgL (m % o)))
      have HQx:=Lib.hid (range_setk (o2:=0) (vs:=mgL (m % o)) (range_keep (range_keep HQ.out (nw1_old wr X0)) HB9.out) (show bq ≠ wr.heap.size by omega))
      have HRx:=Lib.hid (range_set (cs:=mgL (m % o)) (n:=30) (there_keep (W:=nw1 wr X0) (b:=wr.heap.size) (o:=0) (World.there_setCells (there_at rfl _ 86 (by rw [mgL_len])) _ _ _) HB9.out) (by rw [mgL_len]))
      have HT2x:=Lib.hid (World.there_setCells (there_keep (there_keep HD.out.t2 (nw1_old wr X0)) HB9.out) wr.heap.size 0 (mgL (m % o)))
      have HT3x:=Lib.hid (World.there_setCells (there_keep (there_keep HD.out.t3 (nw1_old wr X0)) HB9.out) wr.heap.size 0 (mgL (m % o)))
      clear hD1 hD2 hz9
      refine wp_region_held_drew (S:=(fun w'=>Below w.heap.size w w'/\w'.rangeAt bq 0 (mgL (m / o))/\w'.rangeAt wr.heap.size 0 (mgL (m % o))/\w'.there (w.heap.size + 2) 0 30/\w'.there (w.heap.size + 3) 0 30)) (by kernel_rfl) ?_ (fun hH=>?_)
      · exact ⟨HBx.out.drew,HQx.out,HRx.out,HT2x.out,HT3x.out⟩
      try dsimp only at hH
      refine wpAnyH_take (i:=0) (v:=(.agg (mgL (m / o)).toArray)) rfl (by kernel_rfl) (by kernel_rfl) (by kernel_rfl) (fun _ _ _ h=>h) (yld86 bq 0 (m / o) rfl ⟨_,rfl,rfl⟩ (fun wz hz=>hz.2.1)) hH ?_
      try simp only [Act.put,List.getElem_toArray,List.getElem_cons_zero,List.setIfInBounds_toArray,List.set_cons_zero,List.set_cons_succ]
      refine wpAnyH_take (i:=1) (v:=(.agg (mgL (m % o)).toArray)) rfl (by kernel_rfl) (by kernel_rfl) (by kernel_rfl) (fun _ _ _ h=>h) (yld86 wr.heap.size 0 (m % o) rfl ⟨_,rfl,rfl⟩ (fun wz hz=>hz.2.2.1)) hH ?_
      try simp only [Act.put,List.getElem_toArray,List.getElem_cons_succ,List.getElem_cons_zero,List.setIfInBounds_toArray,List.set_cons_zero,List.set_cons_succ]
      refine wpAnyH_ready (rs:=[2]) (by kernel_rfl) (by simp) ?_
      refine AllReadyH.cons rfl (fun K hK=>?_) AllReadyH.nil
      simp only [List.getElem_toArray,List.getElem_cons_succ,List.getElem_cons_zero]
      rw [if_pos (by rfl)]
      with_reducible refine wst86 (w.heap.size + 2) 0 (m / o) ?_ hH.2.2.2.1 ?_
      · exact ⟨_,_,rfl,rfl,rfl⟩
      refine hK.out _ _ ?_ (fun hH1=>?_)
      · exact ⟨below_set hH.1 (by omega) _ _,range_setk hH.2.1 (by first | trivial | omega),range_setk hH.2.2.1 (by first | trivial | omega),there_setk hH.2.2.2.1 (by first | trivial | omega),there_setk hH.2.2.2.2 (by first | trivial | omega)⟩
      clear hK K
      try simp only [Act.put]
      refine wpAnyH_ready (rs:=[3]) (by kernel_rfl) (by simp) ?_
      refine AllReadyH.cons rfl (fun K hK=>?_) AllReadyH.nil
      simp only [List.getElem_toArray,List.getElem_cons_succ,List.getElem_cons_zero]
      rw [if_pos (by rfl)]
      with_reducible refine wst86 (w.heap.size + 3) 0 (m % o) ?_ hH1.2.2.2.2 ?_
      · exact ⟨_,_,rfl,rfl,rfl⟩
      refine hK.out _ _ ?_ (fun hH2=>?_)
      · exact ⟨below_set hH1.1 (by omega) _ _,range_setk hH1.2.1 (by first | trivial | omega),range_setk hH1.2.2.1 (by first | trivial | omega),there_setk hH1.2.2.2.1 (by first | trivial | omega),there_setk hH1.2.2.2.2 (by first | trivial | omega)⟩
      clear hK K
      try simp only [Act.put]
      refine wpAnyH_done (by kernel_rfl) ?_ _
      go_wp2
      exact ret_cell_cell Tryz.results197 (w.heap.size + 2) 0 (w.heap.size + 3) 0 rfl rfl (m / o) (m % o) (range_setk (range_set hH.2.2.2.1 (by rw [mgL_len])) (by omega)) (range_set hH1.2.2.2.2 (by rw [mgL_len])) rfl ⟨rfl,hH2.1⟩
end
section
open Go.RowKit
open Go.Lib (decDigits nDigits decDigits_length)
def intM (l : List UInt8) : Nat:=valL (noMinus l)
def intS (l : List UInt8) : Bool:=(l.head? == some 45) && !decide (intM l = 0)
theorem ck_dig (l : List UInt8) (h : ckL l = 0) : AllDig (noMinus l)/\0 < (noMinus l).length/\(noMinus l).length <= 120:=by
  unfold ckL at h
  split at h
  · omega
  · rename_i ha
    split at h
    · omega
    · split at h
      · omega
      · rename_i h3
        have ha : areDig (noMinus l) = true:=by simpa using ha
        unfold areDig at ha
        rw [Bool.and_eq_true,List.all_eq_true] at ha
        refine ⟨⟨by omega,fun i hi=>by have:=ha.1 (noMinus l)[i] (List.getElem_mem _);simpa [isDig] using this⟩,?_,by omega⟩
        cases hl : noMinus l with
        | nil=>rw [hl] at ha;simp at ha
        | cons c r=>simp
theorem noMinus_cases (l : List UInt8) : (∃ t,l = 45 :: t/\noMinus l = t) ∨ (l.head? ≠ some 45/\noMinus l = l):=by
  cases l with
  | nil=>exact Or.inr ⟨by simp,rfl⟩
  | cons c t =>
    by_cases h : c = 45
    · subst h;exact Or.inl ⟨t,rfl,rfl⟩
    · refine Or.inr ⟨by simpa using h,?_⟩
      unfold noMinus Lib.trimPrefix
      rw [if_neg]
      intro hp
      have h2 : 45 = c:=by simpa [Lib.hasPrefix] using hp
      exact h h2.symm
theorem intM_lt (l : List UInt8) (h : ckL l = 0) : intM l < bb ^ 30:=(ck_dig l h).1.lt
theorem parse_ck (s : ByteArray) (h : ckL s.data.toList = 0) (w : World) (hg : Gl w) :
    Calls Tryz.prog 72 #[.string s] w fun e w'=>e = .returned (.agg (sgL (intM s.data.toList) (intS s.data.toList)).toArray)/\Below w.heap.size w w':=by
  obtain ⟨h1,h2,_⟩:=ck_dig _ h
  rcases noMinus_cases s.data.toList with ⟨t,ht,hn⟩ | ⟨hh,hn⟩
  · rw [hn] at h1
    have:=parse_t s t ht h1 w hg.pow
    unfold intS intM
    rw [hn,ht]
    exact this
  · rw [hn] at h1 h2
    have:=parse_f s h1 (by simpa using h2) w hg.pow
    unfold intS intM
    rw [hn,show (s.data.toList.head? == some 45) = false by simpa using hh]
    exact this
theorem check_enter (args : Array Value) (w : World) : (callFunc 12 args).run Tryz.prog w = .ok (.enter 12 args) w:=enters_of Tryz.func12 (by kernel_rfl) rfl _ _
theorem firstOf_ints (s1 s2 : ByteArray) (g : Nat) (w : World) (hg : g < w.heap.size) (hx0 : w.cell? ⟨g,0,none⟩ = some (.string s1)) (hx1 : w.cell? ⟨g,1,none⟩ = some (.string s2)) :
    Calls Tryz.prog 85 #[.func (.func 12) #[] #[],.slice (some ⟨g,0,none⟩) 2 2] w fun e w'=>e = .returned (.int .i64 (firstE [ckL s1.data.toList,ckL s2.data.toList]))/\Below w.heap.size w w' :=
  firstOf_plain 12 check_enter (fun s=>ckL s.data.toList) g 1 2 [s1,s2] w rfl (by omega) hg (fun i hi=>by
    match i,hi with
    | 0,_=>exact hx0
    | 1,_=>exact hx1) (fun x _ w3 _=>check_any x w3)
theorem two_new {w : World} (s1 s2 : Value) (t : TypeId) : w.heap.size < (w.alloc (.cells #[s1,s2] t)).heap.size/\(w.alloc (.cells #[s1,s2] t)).cell? ⟨w.heap.size,0,none⟩ = some s1/\(w.alloc (.cells #[s1,s2] t)).cell? ⟨w.heap.size,1,none⟩ = some s2/\Below w.heap.size w (w.alloc (.cells #[s1,s2] t)):=by
  refine ⟨by simp,?_,?_,(Below.refl _ _).alloc (Nat.le_refl _) _⟩
  · simp only [World.cell?,heap_alloc_at];rfl
  · simp only [World.cell?,heap_alloc_at];rfl
set_option maxHeartbeats 1000000 in
theorem integers_ok (f : Nat) (ef : ∀ args wx,(callFunc f args).run Tryz.prog wx = .ok (.enter f args) wx) (s1 s2 : ByteArray) (h1 : ckL s1.data.toList = 0) (h2 : ckL s2.data.toList = 0) (n : Nat) (sg : Bool) (hn : n < bb ^ 30)
    (hf : ∀ w,Gl w->Calls Tryz.prog f #[.agg (sgL (intM s1.data.toList) (intS s1.data.toList)).toArray,.agg (sgL (intM s2.data.toList) (intS s2.data.toList)).toArray] w fun e w'=>e = .returned (.agg (sgL n sg).toArray)/\Below w.heap.size w w') (w : World) (hg : Gl w) :
    Calls Tryz.prog 77 #[.string s1,.string s2,.func (.func f) #[] #[]] w fun e w'=>e = .returned (.tuple #[.string (if digN n <= 120 then ⟨(sgText n sg).toArray⟩ else ⟨#[]⟩),.int .i64 (fitsV n)])/\Below w.heap.size w w':=by
  obtain ⟨a0,a1,a2,a3⟩:=two_new (w:=w) (.string s1) (.string s2) 9
  have HG1:=Lib.hid (hg.keep a3)
  have cf:=firstOf_ints s1 s2 w.heap.size _ a0 a1 a2
  rw [h1,h2,show firstE [0,0] = 0 from rfl] at cf
  have Cf:=Lib.hid cf
  have Cp1:=Lib.hid (fun w h=>parse_ck s1 h1 w h)
  have Cp2:=Lib.hid (fun w h=>parse_ck s2 h2 w h)
  have Cr:=Lib.hid (fun w h=>result_any n sg hn w h)
  have CF:=Lib.hid hf
  have HB0:=Lib.hid a3
  obtain ⟨V1,hV1⟩ : ∃ V,(sgL (intM s1.data.toList) (intS s1.data.toList)).toArray = V:=⟨_,rfl⟩
  obtain ⟨V2,hV2⟩ : ∃ V,(sgL (intM s2.data.toList) (intS s2.data.toList)).toArray = V:=⟨_,rfl⟩
  rw [hV1] at Cp1 CF
  rw [hV2] at Cp2 CF
  clear cf h1 h2 hf hn a0 a1 a2 a3 hg hV1 hV2
  go_enter Tryz.func77,Tryz.ntmps77
  go_wp2_with (first
    | (go_at_call 85;(with_reducible refine (Cf.out).mono ?_);rintro e w1 ⟨rfl,hb1⟩;have HB1:=Lib.hid (HB0.out.trans (hb1.mono HB0.out.size));have HG2:=Lib.hid (HG1.out.keep hb1);clear hb1)
    | (go_at_call 72;(with_reducible refine (Cp1.out _ HG2.out).mono ?_);rintro e w2 ⟨rfl,hb2⟩;have HB2:=Lib.hid (HB1.out.trans (hb2.mono HB1.out.size));have HG3:=Lib.hid (HG2.out.keep hb2);clear hb2 HG2)
    | (go_at_call 72;(with_reducible refine (Cp2.out _ HG3.out).mono ?_);rintro e w3 ⟨rfl,hb3⟩;have HB3:=Lib.hid (HB2.out.trans (hb3.mono HB2.out.size));have HG4:=Lib.hid (HG3.out.keep hb3);clear hb3 HG3)
    | (go_at_fn f;refine (CF.out _ HG4.out).mono ?_;rintro e w4 ⟨rfl,hb4⟩;have HB4:=Lib.hid (HB3.out.trans (hb4.mono HB3.out.size));have HG5:=Lib.hid (HG4.out.keep hb4);clear hb4 HG4)
    | (go_at_call 74;(with_reducible refine (Cr.out _ HG5.out).mono ?_);rintro e w5 ⟨rfl,hb5⟩;have HB5:=Lib.hid (HB4.out.trans (hb5.mono HB4.out.size));clear hb5))
  all_goals go_ret2
  all_goals exact ⟨rfl,HB5.out⟩
def resT (n : Nat) (s : Bool) : Value:=.tuple #[.string (if digN n <= 120 then ⟨(sgText n s).toArray⟩ else ⟨#[]⟩),.int .i64 (fitsV n)]
def addR (n1 : Nat) (s1 : Bool) (n2 : Nat) (s2 : Bool) : Nat × Bool :=
  if s1 = s2 then (n1 + n2,s1 && !decide (n1 + n2 = 0))
  else if n2 <= n1 then (max n1 n2 - min n1 n2,s1 && !decide (max n1 n2 - min n1 n2 = 0))
  else (max n2 n1 - min n2 n1,s2 && !decide (max n2 n1 - min n2 n1 = 0))
end
end Go.Proofs.YtpbegoflpfdajaaGreatDoor
/- WHAT IS PROVED: contracts of functions of the numbers package and laws for them, used by the last text of this claim. CONDITIONS: stated at each theorem. -/
import Derived.Test.YtpbegoflpfdajaaGreatDoorB27
namespace Go.Proofs.YtpbegoflpfdajaaGreatDoor
open Go.RowKit

def nws2 (w : World) (n : Nat) (s : Bool) (m : Nat) (t : Bool) : World:=(((w.alloc (.cells (sgL 0 false).toArray 88)).alloc (.cells (sgL 0 false).toArray 88)).setCells w.heap.size 0 (sgL n s)).setCells (w.heap.size + 1) 0 (sgL m t)
theorem ss_there0 (w : World) : ((w.alloc (.cells (sgL 0 false).toArray 88)).alloc (.cells (sgL 0 false).toArray 88)).there w.heap.size 0 31:=World.there_alloc (there_at rfl _ 88 (by rw [sgL_len])) _
theorem ss_there1 (w : World) : ((w.alloc (.cells (sgL 0 false).toArray 88)).alloc (.cells (sgL 0 false).toArray 88)).there (w.heap.size + 1) 0 31:=there_at (by simp) _ 88 (by rw [sgL_len])
theorem nws2_old (w : World) (n : Nat) (s : Bool) (m : Nat) (t : Bool) : Below w.heap.size w (nws2 w n s m t):=below_set (below_set (((Below.refl _ _).alloc (Nat.le_refl _) _).alloc (by simp) _) (Nat.le_refl _) _ _) (by omega) _ _
theorem nws2_at0 (w : World) (n : Nat) (s : Bool) (m : Nat) (t : Bool) : (nws2 w n s m t).rangeAt w.heap.size 0 (sgL n s):=range_setk (range_set (ss_there0 w) (by rw [sgL_len])) (by omega)
theorem sdQ_lt {p q : Nat} {s : Bool} (h : p < bb ^ 14) : sdQ p s q < bb ^ 30:=by
  have h1:=Nat.div_le_self p q
  have h2 : bb ^ 14 * 2 <= bb ^ 30:=by
    refine Nat.le_trans (Nat.mul_le_mul_left (bb ^ 14) (show 2 <= bb ^ 16 from Nat.le_trans (by unfold bb;omega) (pow_mono (show 1 <= 16 by omega)))) ?_
    rw [<- Nat.pow_add];exact Nat.le_refl _
  have h3:=bb_pow_pos 14
  unfold sdQ;split <;> omega
set_option maxHeartbeats 4000000 in
set_option maxRecDepth 20000 in
theorem floor_ok (x : ByteArray) (hx : x.size < 4294967281) (w : World) (hg : Gl w) (h1 : ckR x.data.toList = 0) : Calls Tryz.prog 53 #[.string x] w fun e w'=>e = .returned (resT (sdQ (frN x.data.toList) (frS x.data.toList) (frD x.data.toList)) (sdS (frN x.data.toList) (frS x.data.toList) (frD x.data.toList) false))/\Below w.heap.size w w':=by
  have cc:=checkReal_any x hx w hg
  rw [h1] at cc
  have Cc:=Lib.hid cc
  have HG:=Lib.hid hg
  have b:=ckR_ok h1
  have C2:=Lib.hid (fun w g=>parse_frac x hx b w g)
  have c3:=fun w=>divS_any (frN x.data.toList) (frS x.data.toList) (frD x.data.toList) false (Nat.lt_of_lt_of_le b.n14 (pow_mono (by omega))) (big_of b.d14) b.nz w
  have hQ : sdQ (frN x.data.toList) (frS x.data.toList) (frD x.data.toList) < bb ^ 30:=sdQ_lt b.n14
  have c4:=fun w g=>result_any (sdQ (frN x.data.toList) (frS x.data.toList) (frD x.data.toList)) (sdS (frN x.data.toList) (frS x.data.toList) (frD x.data.toList) false) hQ w g
  change ∀ w,Gl w->Calls Tryz.prog 74 _ w (fun e w'=>e = .returned (resT (sdQ (frN x.data.toList) (frS x.data.toList) (frD x.data.toList)) (sdS (frN x.data.toList) (frS x.data.toList) (frD x.data.toList) false))/\Below w.heap.size w w') at c4
  generalize frN x.data.toList = p2 at *
  generalize frS x.data.toList = s2 at *
  generalize frD x.data.toList = q2 at *
  obtain ⟨Rr,hR⟩ : ∃ R,resT (sdQ p2 s2 q2) (sdS p2 s2 q2 false) = R:=⟨_,rfl⟩
  have hR2 : ∃ a b,Rr = .tuple #[a,b]:=⟨_,_,hR.symm⟩
  rw [hR] at c4 ⊢
  obtain ⟨ra,rb,rfl⟩:=hR2
  generalize sdQ p2 s2 q2 = Q at *
  generalize sdS p2 s2 q2 false = sg at *
  generalize sdR p2 s2 q2 = R at *
  have C3:=Lib.hid c3;have C4:=Lib.hid c4
  clear cc c3 c4 hR b h1 hg hx hQ
  go_enter Tryz.func53,Tryz.ntmps53
  go_wp2_with (first
    | (go_at_call 45;(with_reducible refine (Cc.out).mono ?_);rintro e w1 ⟨rfl,hb1⟩;have HB1:=Lib.hid hb1;have HG1:=Lib.hid (HG.out.keep hb1);clear hb1)
    | (go_at_call 107;(with_reducible refine (C2.out _ HG1.out).mono ?_);rintro e w2 ⟨rfl,hb2⟩;have HB2:=Lib.hid (HB1.out.trans (hb2.mono HB1.out.size));have HG2:=Lib.hid (HG1.out.keep hb2);clear hb2)
    | ((with_reducible refine al_zb 115 _ w2.heap.size ?_ ?_ z115 ?_);(· exact ⟨rfl,rfl⟩);· rfl)
    | ((with_reducible refine st115 w2.heap.size 0 p2 s2 q2 false ?_ ?_ ?_);(· exact ⟨rfl,_,_,rfl,rfl,rfl⟩);· exact there_at rfl _ 115 (by rw [frL_len]))
    | ((with_reducible refine ld88 w2.heap.size 0 p2 s2 ?_ ?_ ?_);(· exact ⟨rfl,_,rfl,rfl⟩);· exact fr_up (nwr_at w2 p2 s2 q2 false))
    | ((with_reducible refine ld88 w2.heap.size 31 q2 false ?_ ?_ ?_);(· exact ⟨rfl,_,rfl,rfl⟩);· exact fr_lo (nwr_at w2 p2 s2 q2 false))
    | (go_at_call 87;(with_reducible refine (C3.out _).mono ?_);rintro e w3 ⟨rfl,hb3⟩;have HB3:=Lib.hid (HB2.out.trans ((nwr_below hb3).mono HB2.out.size));have HG3:=Lib.hid (HG2.out.keep (nwr_below hb3));clear hb3;have GN:=Lib.hid (show Gl ((((w3.alloc (.cells (sgL 0 false).toArray 88)).alloc (.cells (sgL 0 false).toArray 88)).setCells w3.heap.size 0 (sgL Q sg)).setCells (w3.heap.size + 1) 0 (sgL R false)) from HG3.out.keep (nws2_old w3 Q sg R false)))
    | ((with_reducible refine al_zb 88 _ w3.heap.size ?_ ?_ z88 ?_);(· exact ⟨rfl,rfl⟩);· rfl)
    | ((with_reducible refine al_zb 88 _ (w3.heap.size + 1) ?_ ?_ z88 ?_);(· exact ⟨rfl,rfl⟩);· (simp;done))
    | ((with_reducible refine st88 w3.heap.size 0 Q sg ?_ ?_ ?_);(· exact ⟨rfl,_,_,rfl,rfl,rfl⟩);· exact ss_there0 w3)
    | ((with_reducible refine st88 (w3.heap.size + 1) 0 R false ?_ ?_ ?_);(· exact ⟨rfl,_,_,rfl,rfl,rfl⟩);· exact World.there_setCells (ss_there1 w3) _ _ _)
    | ((with_reducible refine ld88 w3.heap.size 0 Q sg ?_ ?_ ?_);(· exact ⟨rfl,_,rfl,rfl⟩);· exact nws2_at0 w3 Q sg R false)
    | (go_at_call 74;(with_reducible refine (C4.out _ GN.out).mono ?_);rintro e w4 ⟨rfl,hb4⟩;have HB4:=Lib.hid (show Below (nws2 w3 Q sg R false).heap.size (nws2 w3 Q sg R false) w4 from hb4);clear hb4))
  go_ret2
  have q1:=HB3.out.trans ((nws2_old w3 Q sg R false).mono HB3.out.size)
  exact ⟨rfl,q1.trans (HB4.out.mono q1.size)⟩
end Go.Proofs.YtpbegoflpfdajaaGreatDoor

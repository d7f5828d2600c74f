/- WHAT IS PROVED: contracts of functions of the numbers package and laws for them, used by the last text of this claim. CONDITIONS: stated at each theorem. -/
import Derived.Test.YtpbegoflpfdajaaGreatDoorM48
import Derived.Test.YtpbegoflpfdajaaGreatDoorM46
import Derived.Test.YtpbegoflpfdajaaGreatDoorM31
namespace Go.Proofs.YtpbegoflpfdajaaGreatDoor
section
open Go.RowKit
open Qd (lims)
theorem resR_two (p : Nat) (s : Bool) (q : Nat) (t : Bool) : ∃ a b,resR p s q t = .tuple #[a,b]:=⟨_,_,rfl⟩
theorem fr_sizes {x : ByteArray} (h : Okq x) : Qd.lsz (sgn (frN x.data.toList) (frS x.data.toList)).natAbs <= 60/\Qd.lsz ((frD x.data.toList : Nat) : Int).natAbs <= 60:=by
  obtain ⟨_,o1,o2,v1,v2⟩:=okR_parts h
  have b1:=lsz_okz o1
  have b2:=lsz_okz o2
  rw [v1] at b1
  rw [v2] at b2
  exact ⟨by omega,by omega⟩
end
section
open Go.RowKit
open Qd (lims)
set_option maxHeartbeats 2000000 in
set_option maxRecDepth 100000 in
theorem refReal_err (x y : ByteArray) (sx : x.size <= 300) (sy : y.size <= 300) (h0 : ckD2 x y ≠ 0) (w : World) : Calls Tryz.prog 48 #[.string x,.string y] w fun e w'=>e = .returned (errT (ckD2 x y))/\Below w.heap.size w w':=by
  have Cx:=Lib.hid (fun W=>refCheck_any x (by omega) W)
  have Cy:=Lib.hid (fun W=>refCheck_any y (by omega) W)
  have CW:=Lib.hid (fun b W=>refWhen_any b 30 W)
  unfold ckD2 at h0 ⊢
  unfold errT
  obtain ⟨E1,h1⟩ : ∃ E,ckL x.data.toList = E:=⟨_,rfl⟩
  obtain ⟨E2,h2⟩ : ∃ E,ckL y.data.toList = E:=⟨_,rfl⟩
  obtain ⟨b,hb⟩ : ∃ b,(y.toList == [48]) = b:=⟨_,rfl⟩
  obtain ⟨E3,h3⟩ : ∃ E : Int,(if b then 30 else 0) = E:=⟨_,rfl⟩
  have CWb:=Lib.hid (CW.out b)
  rw [h3] at CWb
  rw [hb,h3] at h0 ⊢
  rw [h1] at Cx h0 ⊢
  rw [h2] at Cy h0 ⊢
  obtain ⟨E,hE⟩ : ∃ E,firstE [E1,E2,E3] = E:=⟨_,rfl⟩
  rw [hE] at h0 ⊢
  have d0 : (E != 0) = true:=by simpa using h0
  clear h1 h2 h3 h0 CW sx sy
  go_enter Tryz.func48,Tryz.ntmps48
  go_wp2_with (first
      | (go_at_call 13;(with_reducible refine (Cx.out _).mono ?_);rintro e wa ⟨rfl,hw⟩;subst wa)
      | (go_at_call 13;(with_reducible refine (Cy.out _).mono ?_);rintro e wb ⟨rfl,hw⟩;subst wb)
      | (go_at_call 65;(with_reducible refine (CWb.out _).mono ?_);rintro e wb ⟨rfl,hw⟩;subst wb)
      | (go_at_call 79;(with_reducible refine (refFirst_any _ 3 3 [E1,E2,E3] rfl (by omega) _ (three_cells _ E1 E2 E3 3)).mono ?_);rintro e wc ⟨rfl,hw⟩;subst wc;rw [hE]))
  go_ret2
  exact ⟨rfl,(by repeat' first | exact Below.refl _ _ | assumption | refine Below.setCell ?_ ?_ _ | refine Below.alloc ?_ ?_ _ | refine below_drewN ?_ | refine Below.drew ?_ | (simp;done) | (simp;omega))⟩
set_option maxHeartbeats 4000000 in
set_option maxRecDepth 100000 in
theorem refReal_ok (x y : ByteArray) (sx : x.size <= 300) (sy : y.size <= 300) (o1 : Okz x) (o2 : Okz y) (h0 : vz y ≠ 0) (w : World) : Calls Tryz.prog 48 #[.string x,.string y] w fun e w'=>e = .returned (resR (intM x.data.toList) (intS x.data.toList) (intM y.data.toList) (intS y.data.toList))/\Below w.heap.size w w':=by
  have Cx:=Lib.hid (fun W=>refCheck_any x (by omega) W)
  have Cy:=Lib.hid (fun W=>refCheck_any y (by omega) W)
  rw [show ckL x.data.toList = 0 from o1] at Cx
  rw [show ckL y.data.toList = 0 from o2] at Cy
  have CWb:=Lib.hid (fun W=>refWhen_any false 30 W)
  rw [show (if false = true then (30 : Int) else 0) = 0 from rfl] at CWb
  have hb : (y.toList == [48]) = false:=by rw [zero_text o2];exact decide_eq_false h0
  have hf : firstE [(0 : Int),0,0] = 0:=rfl
  have Rx:=Lib.hid (fun W=>refReadZ x o1 W)
  have Ry:=Lib.hid (fun W=>refReadZ y o2 W)
  have b1:=lsz_okz o1
  have b2:=lsz_okz o2
  have nz : intM y.data.toList ≠ 0:=by have:=vz_abs y;omega
  have C2:=Lib.hid (fun W v1 v2 (g1 : BigAt W v1 (vz x)) (g2 : BigAt W v2 (vz y))=>refLowest_any v1 v2 (vz x) (vz y) h0 (by omega) (by omega) W g1 g2)
  have lf:=low_fit (P:=vz x) (Q:=vz y) (k:=30) b1 b2
  have C3:=Lib.hid (fun W v (g : FrAt W v (lowP (vz x) (vz y)) (lowQ (vz x) (vz y)))=>by have:=refWriteReal_any v _ _ (by omega) (by omega) W g;rwa [lowR (P:=vz x) (Q:=vz y) (p:=intM x.data.toList) (s:=intS x.data.toList) (q:=intM y.data.toList) (t:=intS y.data.toList) rfl rfl nz] at this)
  obtain ⟨ra,rb,hR⟩:=resR_two (intM x.data.toList) (intS x.data.toList) (intM y.data.toList) (intS y.data.toList)
  rw [hR] at C3 ⊢
  obtain ⟨lp,hlp⟩ : ∃ z,lowP (vz x) (vz y) = z:=⟨_,rfl⟩
  obtain ⟨lq,hlq⟩ : ∃ z,lowQ (vz x) (vz y) = z:=⟨_,rfl⟩
  rw [hlp,hlq] at C2 C3
  obtain ⟨zx,hzx⟩ : ∃ z,vz x = z:=⟨_,rfl⟩
  obtain ⟨zy,hzy⟩ : ∃ z,vz y = z:=⟨_,rfl⟩
  rw [hzx] at Rx C2
  rw [hzy] at Ry C2
  clear o1 o2 h0 b1 b2 nz lf hR hlp hlq hzx hzy sx sy
  go_enter Tryz.func48,Tryz.ntmps48
  go_wp2_with (first
      | (go_at_call 13;(with_reducible refine (Cx.out _).mono ?_);rintro e wa ⟨rfl,hw⟩;subst wa)
      | (go_at_call 13;(with_reducible refine (Cy.out _).mono ?_);rintro e wb ⟨rfl,hw⟩;subst wb)
      | (go_at_call 65;(with_reducible refine (CWb.out _).mono ?_);rintro e wb ⟨rfl,hw⟩;subst wb)
      | (go_at_call 79;(with_reducible refine (refFirst_any _ 3 3 [(0 : Int),0,0] rfl (by omega) _ (three_cells _ 0 0 0 3)).mono ?_);rintro e wc ⟨rfl,hw⟩;subst wc;rw [hf])
      | (go_at_call 70;(with_reducible refine (Rx.out _).mono ?_);rintro e w1 ⟨v1,rfl,hg1,hb1⟩;obtain ⟨b3,p3,k3,c3,rfl⟩:=hg1.shape;have hl1 : Below w.heap.size w w1:=Below.trans (B:=w.heap.size) (by repeat' first | exact Below.refl _ _ | assumption | refine Below.setCell ?_ ?_ _ | refine Below.alloc ?_ ?_ _ | refine below_drewN ?_ | refine Below.drew ?_ | (simp;done) | (simp;omega)) (Below.mono hb1 (by simp)))
      | (go_at_call 70;(with_reducible refine (Ry.out _).mono ?_);rintro e w2 ⟨v2,rfl,hg2,hb2⟩;obtain ⟨b4,p4,k4,c4,rfl⟩:=hg2.shape;have hl2:=hl1.trans (hb2.mono hl1.size);have hg1':=hg1.keep hb2)
      | (go_at_call 118;(with_reducible refine (C2.out _ _ _ hg1' hg2).mono ?_);rintro e w3 ⟨v3,rfl,hg3,hb3⟩;have HG3:=Lib.hid hg3;obtain ⟨t3,p5,k5,c5,t3',p5',k5',c5',rfl,_,_⟩:=hg3;have hl3:=hl2.trans (hb3.mono hl2.size))
      | (go_at_call 101;(with_reducible refine (C3.out _ _ HG3.out).mono ?_);rintro e w4 ⟨rfl,hb4⟩;have hl4:=hl3.trans (hb4.mono hl3.size)))
  go_ret2
  exact ⟨rfl,hl4⟩
set_option maxHeartbeats 2000000 in
set_option maxRecDepth 100000 in
theorem refParts_err (x : ByteArray) (sx : x.size <= 300) (h0 : ckR x.data.toList ≠ 0) (w : World) : Calls Tryz.prog 50 #[.string x] w fun e w'=>e = .returned (.tuple #[.string ⟨#[]⟩,.string ⟨#[]⟩,.int .i64 (ckR x.data.toList)])/\Below w.heap.size w w':=by
  have C:=Lib.hid (fun W=>refCheckReal_any x sx W)
  obtain ⟨E,hE⟩ : ∃ E,ckR x.data.toList = E:=⟨_,rfl⟩
  rw [hE] at C h0 ⊢
  have d0 : (E != 0) = true:=by simpa using h0
  clear h0 hE sx
  go_enter Tryz.func50,Tryz.ntmps50
  go_wp2_with (go_at_call 46;(with_reducible refine (C.out _).mono ?_);rintro e w1 ⟨rfl,hb1⟩)
  go_ret3
  exact ⟨rfl,hb1⟩
set_option maxHeartbeats 2000000 in
set_option maxRecDepth 100000 in
theorem refParts_ok (x : ByteArray) (sx : x.size <= 300) (h0 : Okq x) (w : World) : Calls Tryz.prog 50 #[.string x] w fun e w'=>e = .returned (.tuple #[.string ⟨(sgText (frN x.data.toList) (frS x.data.toList)).toArray⟩,.string ⟨(sgText (frD x.data.toList) false).toArray⟩,.int .i64 0])/\Below w.heap.size w w':=by
  have C:=Lib.hid (fun W=>refCheckReal_any x sx W)
  rw [show ckR x.data.toList = 0 from h0] at C
  have S:=fun W=>refSplit_any x x.size rfl (by omega) W
  simp only [if_pos (okR_parts h0).1] at S
  have k:=ckR_ok h0
  have t1:=ok_text k.up
  have t2:=ok_text k.lo
  rw [k.pos] at t2
  rw [show sgText (frN x.data.toList) (frS x.data.toList) = upT x.data.toList from t1,show sgText (frD x.data.toList) false = loT x.data.toList from t2]
  obtain ⟨p,hp⟩ : ∃ p : ByteArray,⟨(upT x.data.toList).toArray⟩ = p:=⟨_,rfl⟩
  obtain ⟨q,hq⟩ : ∃ p : ByteArray,⟨(loT x.data.toList).toArray⟩ = p:=⟨_,rfl⟩
  rw [hp,hq] at S ⊢
  have S:=Lib.hid S
  clear t1 t2 k h0 hp hq sx
  go_enter Tryz.func50,Tryz.ntmps50
  go_wp2_with (first
    | (go_at_call 46;(with_reducible refine (C.out _).mono ?_);rintro e w1 ⟨rfl,hb1⟩)
    | (go_at_call 116;(with_reducible refine (S.out _).mono ?_);rintro e w2 ⟨rfl,hb2⟩))
  go_ret3
  exact ⟨rfl,hb1.trans (hb2.mono hb1.size)⟩
set_option maxHeartbeats 2000000 in
set_option maxRecDepth 100000 in
theorem refFloor_err (x : ByteArray) (sx : x.size <= 300) (h0 : ckR x.data.toList ≠ 0) (w : World) : Calls Tryz.prog 54 #[.string x] w fun e w'=>e = .returned (errT (ckR x.data.toList))/\Below w.heap.size w w':=by
  have C:=Lib.hid (fun W=>refCheckReal_any x sx W)
  unfold errT
  obtain ⟨E,hE⟩ : ∃ E,ckR x.data.toList = E:=⟨_,rfl⟩
  rw [hE] at C h0 ⊢
  have d0 : (E != 0) = true:=by simpa using h0
  clear h0 hE sx
  go_enter Tryz.func54,Tryz.ntmps54
  go_wp2_with (go_at_call 46;(with_reducible refine (C.out _).mono ?_);rintro e w1 ⟨rfl,hb1⟩)
  go_ret2
  exact ⟨rfl,hb1⟩
theorem floor_same (n d : Nat) (s : Bool) (hd : 0 < d) : resT (sdQ n s d) (sdS n s d false) = resI (sgn n s / (d : Int)):=by
  obtain ⟨h1,h2⟩:=div_sgn n d s false hd
  rw [sgn_f] at h1
  have hs : sdS n s d false = true->sdQ n s d ≠ 0:=fun e=>by unfold sdS at e;exact and_nz e
  rw [resT_int hs]
  have:=(euclid_unique (a:=sgn n s) (b:=(d : Int)) (q:=sgn (sdQ n s d) (sdS n s d false)) (r:=sdR n s d) (by omega) h1 (by omega) (by omega)).1
  rw [this]
set_option maxHeartbeats 4000000 in
set_option maxRecDepth 100000 in
theorem refFloor_ok (x : ByteArray) (sx : x.size <= 300) (h0 : Okq x) (w : World) : Calls Tryz.prog 54 #[.string x] w fun e w'=>e = .returned (resT (sdQ (frN x.data.toList) (frS x.data.toList) (frD x.data.toList)) (sdS (frN x.data.toList) (frS x.data.toList) (frD x.data.toList) false))/\Below w.heap.size w w':=by
  have C:=Lib.hid (fun W=>refCheckReal_any x sx W)
  rw [show ckR x.data.toList = 0 from h0] at C
  have nz:=(ckR_ok h0).nz
  rw [floor_same _ _ _ nz]
  obtain ⟨l1,l2⟩:=fr_sizes h0
  have R:=Lib.hid (fun W=>refReadReal_any x sx h0 W)
  have hq : ((frD x.data.toList : Nat) : Int) ≠ 0:=by omega
  obtain ⟨P,hP⟩ : ∃ z,sgn (frN x.data.toList) (frS x.data.toList) = z:=⟨_,rfl⟩
  obtain ⟨Q,hQ⟩ : ∃ z : Int,(frD x.data.toList : Int) = z:=⟨_,rfl⟩
  rw [hP] at R l1 ⊢
  rw [hQ] at R l2 hq ⊢
  have CO:=Lib.hid (fun W v1 v2 (g1 : BigAt W v1 P) (g2 : BigAt W v2 Q)=>refOver_any v1 v2 P Q hq (by omega) (by omega) W g1 g2)
  have hfit : Qd.lsz (P / Q).natAbs <= 60:=Nat.le_trans (Qd.lsz_mono (Int.natAbs_ediv_le_natAbs _ _)) l1
  have Cr:=Lib.hid (fun W v (g : BigAt W v (P / Q))=>refResult_any v (P / Q) (by omega) W g)
  obtain ⟨ra,rb,hR⟩:=resI_two (P / Q)
  rw [hR] at Cr ⊢
  obtain ⟨D,hD⟩ : ∃ d,P / Q = d:=⟨_,rfl⟩
  rw [hD] at CO Cr
  clear hD hR hfit hq hP hQ l1 l2 nz h0 sx
  go_enter Tryz.func54,Tryz.ntmps54
  go_wp2_with (first
    | (go_at_call 46;(with_reducible refine (C.out _).mono ?_);rintro e w1 ⟨rfl,hb1⟩)
    | (go_at_call 122;(with_reducible refine (R.out _).mono ?_);rintro e w2 ⟨v2,rfl,hg2,hb2⟩;obtain ⟨t3,p5,k5,c5,t3',p5',k5',c5',rfl,gp,gq⟩:=hg2;have hl2:=hb1.trans (hb2.mono hb1.size);have hs2:=hl2.size)
    | (go_at_call 91;(with_reducible refine (CO.out _ _ _ (gp.keep (by repeat' first | exact Below.refl _ _ | assumption | refine Below.setCell ?_ ?_ _ | refine Below.alloc ?_ ?_ _ | refine below_drewN ?_ | refine Below.drew ?_ | (simp;done) | (simp;omega))) (gq.keep (by repeat' first | exact Below.refl _ _ | assumption | refine Below.setCell ?_ ?_ _ | refine Below.alloc ?_ ?_ _ | refine below_drewN ?_ | refine Below.drew ?_ | (simp;done) | (simp;omega)))).mono ?_);rintro e w3 ⟨vq,vr,rfl,hgq,hgr,hb3⟩;obtain ⟨b5,p6,k6,c6,rfl⟩:=hgq.shape;obtain ⟨b6,p7,k7,c7,rfl⟩:=hgr.shape;have hl3 : Below w.heap.size w w3:=hl2.trans (Below.trans (a:=w2) (B:=w.heap.size) (by repeat' first | exact Below.refl _ _ | assumption | refine Below.setCell ?_ ?_ _ | refine Below.alloc ?_ ?_ _ | refine below_drewN ?_ | refine Below.drew ?_ | (simp;done) | (simp;omega)) (Below.mono hb3 (by simp;omega)));have hs3:=hl3.size)
    | (go_at_call 75;(with_reducible refine (Cr.out _ _ (hgq.keep (by repeat' first | exact Below.refl _ _ | assumption | refine Below.setCell ?_ ?_ _ | refine Below.alloc ?_ ?_ _ | refine below_drewN ?_ | refine Below.drew ?_ | (simp;done) | (simp;omega)))).mono ?_);rintro e w4 ⟨rfl,hb4⟩;have hl4 : Below w.heap.size w w4:=hl3.trans (Below.trans (a:=w3) (B:=w.heap.size) (by repeat' first | exact Below.refl _ _ | assumption | refine Below.setCell ?_ ?_ _ | refine Below.alloc ?_ ?_ _ | refine below_drewN ?_ | refine Below.drew ?_ | (simp;done) | (simp;omega)) (Below.mono hb4 (by simp;omega)))))
  go_ret2
  exact ⟨rfl,hl4⟩
end
section
open Go.RowKit
theorem occ_c (c : UInt8) (A B : List UInt8) : Lib.occAt (A ++ c :: B) [c] A.length = true:=by
  unfold Lib.occAt;rw [List.drop_left];simp [List.isPrefixOf]
theorem occ_c_not (c : UInt8) (l : List UInt8) (j : Nat) (h : ∀ d,l[j]? = some d->d ≠ c) : Lib.occAt l [c] j = false:=by
  unfold Lib.occAt
  cases hd : l.drop j with
  | nil=>rfl
  | cons d t =>
    have : l[j]? = some d:=by
      have:=List.getElem?_drop (xs:=l) (i:=j) (j:=0)
      rw [hd] at this;simpa using this.symm
    have hc:=h d this
    show (([c] : List UInt8).isPrefixOf (d :: t)) = false
    simp [List.isPrefixOf]
    exact fun e=>hc e.symm
theorem cut_c (c : UInt8) (l : List UInt8) (a : Nat) (h : l[a]? = some c) (hb : ∀ j,j < a->l[j]? ≠ some c) : Lib.cut l [c] = (l.take a,l.drop (a + 1),true):=by
  have hl : a < l.length:=by
    rcases Nat.lt_or_ge a l.length with g | g
    · exact g
    · rw [List.getElem?_eq_none g] at h;cases h
  have e : l = l.take a ++ c :: l.drop (a + 1):=by
    have h2 : l[a] = c:=by rw [List.getElem?_eq_getElem hl] at h;injection h
    rw [<- h2,List.getElem_cons_drop,List.take_append_drop]
  have hi : Lib.index l [c] = a:=Lib.index_first (by omega) (by
    have:=occ_c c (l.take a) (l.drop (a + 1))
    rw [<- e,List.length_take,Nat.min_eq_left (by omega)] at this
    exact this) (fun j hj=>occ_c_not c l j (fun d hd e=>hb j hj (by rw [hd,e])))
  unfold Lib.cut
  rw [hi,if_pos (by omega)]
  simp
theorem cut_c_none (c : UInt8) (l : List UInt8) (h : ∀ j : Nat,l[j]? ≠ some c) : (Lib.cut l [c]).2.2 = false:=by
  have hi : Lib.index l [c] = -1:=Lib.index_none (fun j _=>occ_c_not c l j (fun d hd e=>h j (by rw [hd,e])))
  unfold Lib.cut
  rw [hi,if_neg (by omega)]
def okA (l : List UInt8) (k : Nat) : Prop:=∀ j c,j < k->l[j]? = some c->isDig c = true
def oneA (l : List UInt8) (a k : Nat) : Prop:=a < k/\l[a]? = some 46/\∀ j c,j < k->j ≠ a->l[j]? = some c->isDig c = true
theorem dot_dig : isDig 46 = false:=by decide
theorem not_dot {c : UInt8} (h : isDig c = true) : c ≠ 46:=fun e=>by rw [e,dot_dig] at h;cases h
theorem areDig_not {l : List UInt8} {j : Nat} {c : UInt8} (h : l[j]? = some c) (hc : isDig c = false) : areDig l = false:=by
  unfold areDig
  rw [Bool.and_eq_false_iff]
  first
  | exact Or.inl (List.all_eq_false.2 ⟨c,List.mem_of_getElem? h,by rw [hc];decide⟩)
  | exact Or.inr (List.all_eq_false.2 ⟨c,List.mem_of_getElem? h,by rw [hc];decide⟩)
theorem dc_at {l : List UInt8} {a : Nat} (h : l[a]? = some 46) (hb : ∀ j c,j < a->l[j]? = some c->isDig c = true) : dcW l = l.take a/\dcP l = l.drop (a + 1)/\dcF l = (areDig (l.take a) && areDig (l.drop (a + 1))):=by
  have hc:=cut_c 46 l a h (fun j hj e=>not_dot (hb j 46 hj e) rfl)
  have h1 : dcW l = l.take a:=by unfold dcW;rw [hc]
  have h2 : dcP l = l.drop (a + 1):=by unfold dcP;rw [hc]
  refine ⟨h1,h2,?_⟩
  unfold dcF
  rw [h1,h2,hc]
  rfl
theorem dc_bad0 {l : List UInt8} {k : Nat} {c : UInt8} (h : okA l k) (hk : l[k]? = some c) (hd : isDig c = false) (h46 : c ≠ 46) : dcF l = false:=by
  by_cases hx : ∃ a : Nat,l[a]? = some 46
  · obtain ⟨a,ha,hmin⟩ : ∃ a : Nat,l[a]? = some 46/\∀ j,j < a->l[j]? ≠ some 46:=by
      obtain ⟨a,ha⟩:=hx
      induction a using Nat.strongRecOn with
      | _ a ih =>
        by_cases hm : ∃ j : Nat,j < a/\l[j]? = some 46
        · obtain ⟨j,hj,hj2⟩:=hm
          exact ih j hj hj2
        · exact ⟨a,ha,fun j hj e=>hm ⟨j,hj,e⟩⟩
    have hc:=cut_c 46 l a ha hmin
    have hka : k < a:=by
      rcases Nat.lt_trichotomy k a with g | g | g
      · exact g
      · subst g;rw [hk] at ha;injection ha with ha;exact absurd ha h46
      · have:=h a 46 g ha;rw [dot_dig] at this;cases this
    have h1 : dcW l = l.take a:=by unfold dcW;rw [hc]
    have : areDig (l.take a) = false:=areDig_not (j:=k) (c:=c) (by rw [List.getElem?_take_of_lt hka];exact hk) hd
    unfold dcF
    rw [h1,this]
    simp
  · unfold dcF
    rw [cut_c_none 46 l (fun j e=>hx ⟨j,e⟩)]
    rfl
theorem dc_bad1 {l : List UInt8} {a k : Nat} {c : UInt8} (h : oneA l a k) (hk : l[k]? = some c) (hd : isDig c = false) : dcF l = false:=by
  obtain ⟨h1,h2,h3⟩:=h
  obtain ⟨_,_,hf⟩:=dc_at h2 (fun j d hj e=>h3 j d (by omega) (by omega) e)
  rw [hf,areDig_not (l:=l.drop (a + 1)) (j:=k - (a + 1)) (c:=c) (by rw [List.getElem?_drop,show a + 1 + (k - (a + 1)) = k by omega];exact hk) hd]
  simp
theorem dc_none {l : List UInt8} (h : okA l l.length) : dcF l = false:=by
  unfold dcF
  rw [cut_c_none 46 l (fun j e=>by
    have hj : j < l.length:=by
      rcases Nat.lt_or_ge j l.length with g | g
      · exact g
      · rw [List.getElem?_eq_none g] at e;cases e
    have:=h j 46 hj e
    rw [dot_dig] at this;cases this)]
  rfl
theorem areDig_of {l : List UInt8} (h : ∀ c ∈ l,isDig c = true) : areDig l = decide (0 < l.length):=by
  unfold areDig
  have : l.all isDig = true:=List.all_eq_true.2 h
  rw [this]
  cases l with
  | nil=>rfl
  | cons c t=>rfl
theorem dc_one {l : List UInt8} {a : Nat} (h : oneA l a l.length) : dcW l = l.take a/\dcP l = l.drop (a + 1)/\dcF l = (decide (0 < a) && decide (0 < l.length - (a + 1)))/\(∀ c ∈ l.take a ++ l.drop (a + 1),isDig c = true):=by
  obtain ⟨h1,h2,h3⟩:=h
  obtain ⟨e1,e2,e3⟩:=dc_at h2 (fun j d hj e=>h3 j d (by omega) (by omega) e)
  have ht : ∀ c ∈ l.take a,isDig c = true:=fun c hc=>by
    obtain ⟨j,hj,he⟩:=List.getElem_of_mem hc
    rw [List.length_take] at hj
    exact h3 j c (by omega) (by omega) (by rw [List.getElem?_eq_getElem (by omega),<- he,List.getElem_take])
  have hd : ∀ c ∈ l.drop (a + 1),isDig c = true:=fun c hc=>by
    obtain ⟨j,hj,he⟩:=List.getElem_of_mem hc
    rw [List.length_drop] at hj
    rw [List.getElem_drop] at he
    exact h3 (a + 1 + j) c (by omega) (by omega) (by rw [List.getElem?_eq_getElem (by omega),he])
  refine ⟨e1,e2,?_,fun c hc=>?_⟩
  · rw [e3,areDig_of ht,areDig_of hd,List.length_take,List.length_drop,Nat.min_eq_left (by omega)]
  · rcases List.mem_append.1 hc with g | g
    · exact ht c g
    · exact hd c g
end
end Go.Proofs.YtpbegoflpfdajaaGreatDoor
/- WHAT IS PROVED: contracts of functions of the numbers package and laws for them, used by the last text of this claim. CONDITIONS: stated at each theorem. -/
import Derived.Test.YtpbegoflpfdajaaGreatDoorN49
import Derived.Test.YtpbegoflpfdajaaGreatDoorN50
import Derived.Test.YtpbegoflpfdajaaGreatDoorN46
namespace Go.Proofs.YtpbegoflpfdajaaGreatDoor
open Go.RowKit
open Qd (lims)

theorem resR_two (p : Nat) (s : Bool) (q : Nat) (t : Bool) : ∃ a b,resR p s q t = .tuple #[a,b]:=⟨_,_,rfl⟩
theorem fr_sizes {x : ByteArray} (h : Okq x) : Qd.lsz (sgn (frN x.data.toList) (frS x.data.toList)).natAbs <= 60/\Qd.lsz ((frD x.data.toList : Nat) : Int).natAbs <= 60:=by
  obtain ⟨_,o1,o2,v1,v2⟩:=okR_parts h
  have b1:=lsz_okz o1
  have b2:=lsz_okz o2
  rw [v1] at b1
  rw [v2] at b2
  exact ⟨by omega,by omega⟩
theorem cast_mul' (m n : Nat) : sgn (m * n) false = (m : Int) * (n : Int):=by rw [sgn_f,Int.natCast_mul]
theorem BigAt.size_eq {w : World} {t : Bool} {p : Option Addr} {k c : Nat} {z : Int} (h : BigAt w (.agg #[.bool t,.slice p k c]) z) : k = Qd.lsz z.natAbs:=by
  obtain ⟨s,he,hs⟩:=h
  obtain ⟨p',c',rfl,_,_⟩:=hs.parts
  simp at he
  exact he.2.2.1
set_option maxHeartbeats 4000000 in
set_option maxRecDepth 100000 in
theorem refAddReal_err (x y : ByteArray) (sx : x.size <= 300) (sy : y.size <= 300) (h0 : ckR2 x y ≠ 0) (w : World) : Calls Tryz.prog 36 #[.string x,.string y] w fun e w'=>e = .returned (errT (ckR2 x y))/\Below w.heap.size w w':=by
  have C:=Lib.hid (fun W=>refTwo_err x y sx sy h0 W)
  unfold errT
  obtain ⟨E,hE⟩ : ∃ E,ckR2 x y = E:=⟨_,rfl⟩
  rw [hE] at C h0 ⊢
  have d0 : (E != 0) = true:=by simpa using h0
  clear h0 hE sx sy
  go_enter Tryz.func36,Tryz.ntmps36
  go_wp2_with (go_at_call 100;(with_reducible refine (C.out _).mono ?_);rintro e w1 ⟨rfl,hb1⟩;have hs1:=hb1.size)
  go_ret2
  exact ⟨rfl,(by repeat' first | exact Below.refl _ _ | assumption | refine Below.setCell ?_ ?_ _ | refine Below.alloc ?_ ?_ _ | refine below_drewN ?_ | refine Below.drew ?_ | (simp;done) | (simp;omega))⟩
set_option maxHeartbeats 4000000 in
set_option maxRecDepth 100000 in
theorem refAddReal_ok (x y : ByteArray) (sx : x.size <= 300) (sy : y.size <= 300) (hx : Okq x) (hy : Okq y) (w : World) : Calls Tryz.prog 36 #[.string x,.string y] w fun e w'=>e = .returned (resR (addF (frN x.data.toList) (frS x.data.toList) (frD x.data.toList) (frN y.data.toList) (frS y.data.toList) (frD y.data.toList)).1 (addF (frN x.data.toList) (frS x.data.toList) (frD x.data.toList) (frN y.data.toList) (frS y.data.toList) (frD y.data.toList)).2 (frD x.data.toList * frD y.data.toList) false)/\Below w.heap.size w w':=by
  have C:=Lib.hid (fun W=>refTwo_ok x y sx sy hx hy W)
  obtain ⟨l1,l2⟩:=fr_sizes hx
  obtain ⟨l3,l4⟩:=fr_sizes hy
  have nx:=okq_nz hx;have ny:=okq_nz hy
  have hq : (frD x.data.toList : Int) * (frD y.data.toList : Int) ≠ 0:=by have:=Nat.mul_ne_zero nx ny;rw [<- Int.natCast_mul];omega
  have C2:=Lib.hid (fun W v1 v2 (g1 : FrAt W v1 (sgn (frN x.data.toList) (frS x.data.toList)) (frD x.data.toList : Int)) (g2 : FrAt W v2 (sgn (frN y.data.toList) (frS y.data.toList)) (frD y.data.toList : Int))=>refSum_any v1 v2 (sgn (frN x.data.toList) (frS x.data.toList)) (frD x.data.toList : Int) (sgn (frN y.data.toList) (frS y.data.toList)) (frD y.data.toList : Int) hq l1 l2 l3 l4 W g1 g2)
  have lf:=low_fit (P:=sgn (frN x.data.toList) (frS x.data.toList) * (frD y.data.toList : Int) + sgn (frN y.data.toList) (frS y.data.toList) * (frD x.data.toList : Int)) (Q:=(frD x.data.toList : Int) * (frD y.data.toList : Int)) (k:=130) (Nat.le_trans (add_fit (mul_fit l1 l4) (mul_fit l3 l2)) (by omega)) (Nat.le_trans (mul_fit l2 l4) (by omega))
  have C3:=Lib.hid (fun W v (g : FrAt W v (lowP (sgn (frN x.data.toList) (frS x.data.toList) * (frD y.data.toList : Int) + sgn (frN y.data.toList) (frS y.data.toList) * (frD x.data.toList : Int)) ((frD x.data.toList : Int) * (frD y.data.toList : Int))) (lowQ (sgn (frN x.data.toList) (frS x.data.toList) * (frD y.data.toList : Int) + sgn (frN y.data.toList) (frS y.data.toList) * (frD x.data.toList : Int)) ((frD x.data.toList : Int) * (frD y.data.toList : Int))))=>by have:=refWriteReal_any v _ _ (by omega) (by omega) W g;rwa [lowR (P:=sgn (frN x.data.toList) (frS x.data.toList) * (frD y.data.toList : Int) + sgn (frN y.data.toList) (frS y.data.toList) * (frD x.data.toList : Int)) (Q:=(frD x.data.toList : Int) * (frD y.data.toList : Int)) (p:=(addF (frN x.data.toList) (frS x.data.toList) (frD x.data.toList) (frN y.data.toList) (frS y.data.toList) (frD y.data.toList)).1) (s:=(addF (frN x.data.toList) (frS x.data.toList) (frD x.data.toList) (frN y.data.toList) (frS y.data.toList) (frD y.data.toList)).2) (q:=(frD x.data.toList * frD y.data.toList)) (t:=false) (addF_sgn _ _ _ _ _ _) (cast_mul' _ _) (Nat.mul_ne_zero nx ny)] at this)
  obtain ⟨ra,rb,hR⟩:=resR_two (addF (frN x.data.toList) (frS x.data.toList) (frD x.data.toList) (frN y.data.toList) (frS y.data.toList) (frD y.data.toList)).1 (addF (frN x.data.toList) (frS x.data.toList) (frD x.data.toList) (frN y.data.toList) (frS y.data.toList) (frD y.data.toList)).2 (frD x.data.toList * frD y.data.toList) false
  rw [hR] at C3 ⊢
  obtain ⟨lp,hlp⟩ : ∃ z,lowP (sgn (frN x.data.toList) (frS x.data.toList) * (frD y.data.toList : Int) + sgn (frN y.data.toList) (frS y.data.toList) * (frD x.data.toList : Int)) ((frD x.data.toList : Int) * (frD y.data.toList : Int)) = z:=⟨_,rfl⟩
  obtain ⟨lq,hlq⟩ : ∃ z,lowQ (sgn (frN x.data.toList) (frS x.data.toList) * (frD y.data.toList : Int) + sgn (frN y.data.toList) (frS y.data.toList) * (frD x.data.toList : Int)) ((frD x.data.toList : Int) * (frD y.data.toList : Int)) = z:=⟨_,rfl⟩
  rw [hlp,hlq] at C2 C3
  obtain ⟨z1,hz1⟩ : ∃ z,sgn (frN x.data.toList) (frS x.data.toList) = z:=⟨_,rfl⟩
  obtain ⟨z2,hz2⟩ : ∃ z : Int,(frD x.data.toList : Int) = z:=⟨_,rfl⟩
  obtain ⟨z3,hz3⟩ : ∃ z,sgn (frN y.data.toList) (frS y.data.toList) = z:=⟨_,rfl⟩
  obtain ⟨z4,hz4⟩ : ∃ z : Int,(frD y.data.toList : Int) = z:=⟨_,rfl⟩
  rw [hz1,hz2,hz3,hz4] at C
  rw [hz1,hz2,hz3,hz4] at C2
  clear hlp hlq hR lf hq hz1 hz2 hz3 hz4
  clear l1 l2 l3 l4 nx ny hx hy sx sy
  go_enter Tryz.func36,Tryz.ntmps36
  go_wp2_with (first
    | (go_at_call 100;(with_reducible refine (C.out _).mono ?_);rintro e w1 ⟨v1,v2,rfl,hg1,hg2,hb1⟩;have HG1:=Lib.hid hg1;have HG2:=Lib.hid hg2;obtain ⟨t1,p1,k1,c1,t1',p1',k1',c1',rfl,_,_⟩:=hg1;obtain ⟨t2,p2,k2,c2,t2',p2',k2',c2',rfl,_,_⟩:=hg2;have hs1:=hb1.size)
    | (go_at_call 102;(with_reducible refine (C2.out _ _ _ (HG1.out.keep (by repeat' first | exact Below.refl _ _ | assumption | refine Below.setCell ?_ ?_ _ | refine Below.alloc ?_ ?_ _ | refine below_drewN ?_ | refine Below.drew ?_ | (simp;done) | (simp;omega))) (HG2.out.keep (by repeat' first | exact Below.refl _ _ | assumption | refine Below.setCell ?_ ?_ _ | refine Below.alloc ?_ ?_ _ | refine below_drewN ?_ | refine Below.drew ?_ | (simp;done) | (simp;omega)))).mono ?_);rintro e w2 ⟨v3,rfl,hg3,hb2⟩;have HG3:=Lib.hid hg3;obtain ⟨t3,p3,k3,c3,t3',p3',k3',c3',rfl,_,_⟩:=hg3;have hl2 : Below w.heap.size w w2:=Below.trans (B:=w.heap.size) (by repeat' first | exact Below.refl _ _ | assumption | refine Below.setCell ?_ ?_ _ | refine Below.alloc ?_ ?_ _ | refine below_drewN ?_ | refine Below.drew ?_ | (simp;done) | (simp;omega)) (Below.mono hb2 (by simp;omega));have hs2:=hl2.size)
    | (go_at_call 101;(with_reducible refine (C3.out _ _ HG3.out).mono ?_);rintro e w3 ⟨rfl,hb3⟩;have hl3:=hl2.trans (hb3.mono hs2)))
  go_ret2
  exact ⟨rfl,hl3⟩
set_option maxHeartbeats 4000000 in
set_option maxRecDepth 100000 in
theorem refMulReal_err (x y : ByteArray) (sx : x.size <= 300) (sy : y.size <= 300) (h0 : ckR2 x y ≠ 0) (w : World) : Calls Tryz.prog 40 #[.string x,.string y] w fun e w'=>e = .returned (errT (ckR2 x y))/\Below w.heap.size w w':=by
  have C:=Lib.hid (fun W=>refTwo_err x y sx sy h0 W)
  unfold errT
  obtain ⟨E,hE⟩ : ∃ E,ckR2 x y = E:=⟨_,rfl⟩
  rw [hE] at C h0 ⊢
  have d0 : (E != 0) = true:=by simpa using h0
  clear h0 hE sx sy
  go_enter Tryz.func40,Tryz.ntmps40
  go_wp2_with (go_at_call 100;(with_reducible refine (C.out _).mono ?_);rintro e w1 ⟨rfl,hb1⟩;have hs1:=hb1.size)
  go_ret2
  exact ⟨rfl,(by repeat' first | exact Below.refl _ _ | assumption | refine Below.setCell ?_ ?_ _ | refine Below.alloc ?_ ?_ _ | refine below_drewN ?_ | refine Below.drew ?_ | (simp;done) | (simp;omega))⟩
set_option maxHeartbeats 4000000 in
set_option maxRecDepth 100000 in
theorem refMulReal_ok (x y : ByteArray) (sx : x.size <= 300) (sy : y.size <= 300) (hx : Okq x) (hy : Okq y) (w : World) : Calls Tryz.prog 40 #[.string x,.string y] w fun e w'=>e = .returned (resR (frN x.data.toList * frN y.data.toList) (mulS (frS x.data.toList) (frS y.data.toList) (frN x.data.toList * frN y.data.toList)) (frD x.data.toList * frD y.data.toList) false)/\Below w.heap.size w w':=by
  have C:=Lib.hid (fun W=>refTwo_ok x y sx sy hx hy W)
  obtain ⟨l1,l2⟩:=fr_sizes hx
  obtain ⟨l3,l4⟩:=fr_sizes hy
  have nx:=okq_nz hx;have ny:=okq_nz hy
  have hq : (frD x.data.toList : Int) * (frD y.data.toList : Int) ≠ 0:=by have:=Nat.mul_ne_zero nx ny;rw [<- Int.natCast_mul];omega
  have C2:=Lib.hid (fun W v1 v2 (g1 : FrAt W v1 (sgn (frN x.data.toList) (frS x.data.toList)) (frD x.data.toList : Int)) (g2 : FrAt W v2 (sgn (frN y.data.toList) (frS y.data.toList)) (frD y.data.toList : Int))=>refProduct_any v1 v2 (sgn (frN x.data.toList) (frS x.data.toList)) (frD x.data.toList : Int) (sgn (frN y.data.toList) (frS y.data.toList)) (frD y.data.toList : Int) hq l1 l2 l3 l4 W g1 g2)
  have lf:=low_fit (P:=sgn (frN x.data.toList) (frS x.data.toList) * sgn (frN y.data.toList) (frS y.data.toList)) (Q:=(frD x.data.toList : Int) * (frD y.data.toList : Int)) (k:=130) (Nat.le_trans (mul_fit l1 l3) (by omega)) (Nat.le_trans (mul_fit l2 l4) (by omega))
  have C3:=Lib.hid (fun W v (g : FrAt W v (lowP (sgn (frN x.data.toList) (frS x.data.toList) * sgn (frN y.data.toList) (frS y.data.toList)) ((frD x.data.toList : Int) * (frD y.data.toList : Int))) (lowQ (sgn (frN x.data.toList) (frS x.data.toList) * sgn (frN y.data.toList) (frS y.data.toList)) ((frD x.data.toList : Int) * (frD y.data.toList : Int))))=>by have:=refWriteReal_any v _ _ (by omega) (by omega) W g;rwa [lowR (P:=sgn (frN x.data.toList) (frS x.data.toList) * sgn (frN y.data.toList) (frS y.data.toList)) (Q:=(frD x.data.toList : Int) * (frD y.data.toList : Int)) (p:=(frN x.data.toList * frN y.data.toList)) (s:=(mulS (frS x.data.toList) (frS y.data.toList) (frN x.data.toList * frN y.data.toList))) (q:=(frD x.data.toList * frD y.data.toList)) (t:=false) (mulS_sgn _ _ _ _) (cast_mul' _ _) (Nat.mul_ne_zero nx ny)] at this)
  obtain ⟨ra,rb,hR⟩:=resR_two (frN x.data.toList * frN y.data.toList) (mulS (frS x.data.toList) (frS y.data.toList) (frN x.data.toList * frN y.data.toList)) (frD x.data.toList * frD y.data.toList) false
  rw [hR] at C3 ⊢
  obtain ⟨lp,hlp⟩ : ∃ z,lowP (sgn (frN x.data.toList) (frS x.data.toList) * sgn (frN y.data.toList) (frS y.data.toList)) ((frD x.data.toList : Int) * (frD y.data.toList : Int)) = z:=⟨_,rfl⟩
  obtain ⟨lq,hlq⟩ : ∃ z,lowQ (sgn (frN x.data.toList) (frS x.data.toList) * sgn (frN y.data.toList) (frS y.data.toList)) ((frD x.data.toList : Int) * (frD y.data.toList : Int)) = z:=⟨_,rfl⟩
  rw [hlp,hlq] at C2 C3
  obtain ⟨z1,hz1⟩ : ∃ z,sgn (frN x.data.toList) (frS x.data.toList) = z:=⟨_,rfl⟩
  obtain ⟨z2,hz2⟩ : ∃ z : Int,(frD x.data.toList : Int) = z:=⟨_,rfl⟩
  obtain ⟨z3,hz3⟩ : ∃ z,sgn (frN y.data.toList) (frS y.data.toList) = z:=⟨_,rfl⟩
  obtain ⟨z4,hz4⟩ : ∃ z : Int,(frD y.data.toList : Int) = z:=⟨_,rfl⟩
  rw [hz1,hz2,hz3,hz4] at C
  rw [hz1,hz2,hz3,hz4] at C2
  clear hlp hlq hR lf hq hz1 hz2 hz3 hz4
  clear l1 l2 l3 l4 nx ny hx hy sx sy
  go_enter Tryz.func40,Tryz.ntmps40
  go_wp2_with (first
    | (go_at_call 100;(with_reducible refine (C.out _).mono ?_);rintro e w1 ⟨v1,v2,rfl,hg1,hg2,hb1⟩;have HG1:=Lib.hid hg1;have HG2:=Lib.hid hg2;obtain ⟨t1,p1,k1,c1,t1',p1',k1',c1',rfl,_,_⟩:=hg1;obtain ⟨t2,p2,k2,c2,t2',p2',k2',c2',rfl,_,_⟩:=hg2;have hs1:=hb1.size)
    | (go_at_call 106;(with_reducible refine (C2.out _ _ _ (HG1.out.keep (by repeat' first | exact Below.refl _ _ | assumption | refine Below.setCell ?_ ?_ _ | refine Below.alloc ?_ ?_ _ | refine below_drewN ?_ | refine Below.drew ?_ | (simp;done) | (simp;omega))) (HG2.out.keep (by repeat' first | exact Below.refl _ _ | assumption | refine Below.setCell ?_ ?_ _ | refine Below.alloc ?_ ?_ _ | refine below_drewN ?_ | refine Below.drew ?_ | (simp;done) | (simp;omega)))).mono ?_);rintro e w2 ⟨v3,rfl,hg3,hb2⟩;have HG3:=Lib.hid hg3;obtain ⟨t3,p3,k3,c3,t3',p3',k3',c3',rfl,_,_⟩:=hg3;have hl2 : Below w.heap.size w w2:=Below.trans (B:=w.heap.size) (by repeat' first | exact Below.refl _ _ | assumption | refine Below.setCell ?_ ?_ _ | refine Below.alloc ?_ ?_ _ | refine below_drewN ?_ | refine Below.drew ?_ | (simp;done) | (simp;omega)) (Below.mono hb2 (by simp;omega));have hs2:=hl2.size)
    | (go_at_call 101;(with_reducible refine (C3.out _ _ HG3.out).mono ?_);rintro e w3 ⟨rfl,hb3⟩;have hl3:=hl2.trans (hb3.mono hs2)))
  go_ret2
  exact ⟨rfl,hl3⟩
set_option maxHeartbeats 4000000 in
set_option maxRecDepth 100000 in
theorem refSubReal_err (x y : ByteArray) (sx : x.size <= 300) (sy : y.size <= 300) (h0 : ckR2 x y ≠ 0) (w : World) : Calls Tryz.prog 38 #[.string x,.string y] w fun e w'=>e = .returned (errT (ckR2 x y))/\Below w.heap.size w w':=by
  have C:=Lib.hid (fun W=>refTwo_err x y sx sy h0 W)
  unfold errT
  obtain ⟨E,hE⟩ : ∃ E,ckR2 x y = E:=⟨_,rfl⟩
  rw [hE] at C h0 ⊢
  have d0 : (E != 0) = true:=by simpa using h0
  clear h0 hE sx sy
  go_enter Tryz.func38,Tryz.ntmps38
  go_wp2_with (go_at_call 100;(with_reducible refine (C.out _).mono ?_);rintro e w1 ⟨rfl,hb1⟩;have hs1:=hb1.size)
  go_ret2
  exact ⟨rfl,(by repeat' first | exact Below.refl _ _ | assumption | refine Below.setCell ?_ ?_ _ | refine Below.alloc ?_ ?_ _ | refine below_drewN ?_ | refine Below.drew ?_ | (simp;done) | (simp;omega))⟩
set_option maxHeartbeats 4000000 in
set_option maxRecDepth 100000 in
theorem refSubReal_ok (x y : ByteArray) (sx : x.size <= 300) (sy : y.size <= 300) (hx : Okq x) (hy : Okq y) (w : World) : Calls Tryz.prog 38 #[.string x,.string y] w fun e w'=>e = .returned (resR (addF (frN x.data.toList) (frS x.data.toList) (frD x.data.toList) (frN y.data.toList) (!frS y.data.toList && !decide (frN y.data.toList = 0)) (frD y.data.toList)).1 (addF (frN x.data.toList) (frS x.data.toList) (frD x.data.toList) (frN y.data.toList) (!frS y.data.toList && !decide (frN y.data.toList = 0)) (frD y.data.toList)).2 (frD x.data.toList * frD y.data.toList) false)/\Below w.heap.size w w':=by
  have C:=Lib.hid (fun W=>refTwo_ok x y sx sy hx hy W)
  obtain ⟨l1,l2⟩:=fr_sizes hx
  obtain ⟨l3,l4⟩:=fr_sizes hy
  have nx:=okq_nz hx;have ny:=okq_nz hy
  have l3n : Qd.lsz (-(sgn (frN y.data.toList) (frS y.data.toList))).natAbs <= 60:=by rw [natAbs_neg'];exact l3
  have C1:=Lib.hid (fun W v (g : FrAt W v (sgn (frN y.data.toList) (frS y.data.toList)) (frD y.data.toList : Int))=>refOpposite_any v (sgn (frN y.data.toList) (frS y.data.toList)) (frD y.data.toList : Int) l3 W g)
  have hq : (frD x.data.toList : Int) * (frD y.data.toList : Int) ≠ 0:=by have:=Nat.mul_ne_zero nx ny;rw [<- Int.natCast_mul];omega
  have C2:=Lib.hid (fun W v1 v2 (g1 : FrAt W v1 (sgn (frN x.data.toList) (frS x.data.toList)) (frD x.data.toList : Int)) (g2 : FrAt W v2 (-(sgn (frN y.data.toList) (frS y.data.toList))) (frD y.data.toList : Int))=>refSum_any v1 v2 (sgn (frN x.data.toList) (frS x.data.toList)) (frD x.data.toList : Int) (-(sgn (frN y.data.toList) (frS y.data.toList))) (frD y.data.toList : Int) hq l1 l2 l3n l4 W g1 g2)
  have lf:=low_fit (P:=sgn (frN x.data.toList) (frS x.data.toList) * (frD y.data.toList : Int) + -(sgn (frN y.data.toList) (frS y.data.toList)) * (frD x.data.toList : Int)) (Q:=(frD x.data.toList : Int) * (frD y.data.toList : Int)) (k:=130) (Nat.le_trans (add_fit (mul_fit l1 l4) (mul_fit l3n l2)) (by omega)) (Nat.le_trans (mul_fit l2 l4) (by omega))
  have C3:=Lib.hid (fun W v (g : FrAt W v (lowP (sgn (frN x.data.toList) (frS x.data.toList) * (frD y.data.toList : Int) + -(sgn (frN y.data.toList) (frS y.data.toList)) * (frD x.data.toList : Int)) ((frD x.data.toList : Int) * (frD y.data.toList : Int))) (lowQ (sgn (frN x.data.toList) (frS x.data.toList) * (frD y.data.toList : Int) + -(sgn (frN y.data.toList) (frS y.data.toList)) * (frD x.data.toList : Int)) ((frD x.data.toList : Int) * (frD y.data.toList : Int))))=>by have:=refWriteReal_any v _ _ (by omega) (by omega) W g;rwa [lowR (P:=sgn (frN x.data.toList) (frS x.data.toList) * (frD y.data.toList : Int) + -(sgn (frN y.data.toList) (frS y.data.toList)) * (frD x.data.toList : Int)) (Q:=(frD x.data.toList : Int) * (frD y.data.toList : Int)) (p:=(addF (frN x.data.toList) (frS x.data.toList) (frD x.data.toList) (frN y.data.toList) (!frS y.data.toList && !decide (frN y.data.toList = 0)) (frD y.data.toList)).1) (s:=(addF (frN x.data.toList) (frS x.data.toList) (frD x.data.toList) (frN y.data.toList) (!frS y.data.toList && !decide (frN y.data.toList = 0)) (frD y.data.toList)).2) (q:=(frD x.data.toList * frD y.data.toList)) (t:=false) (by rw [addF_sgn,sgn_neg]) (cast_mul' _ _) (Nat.mul_ne_zero nx ny)] at this)
  obtain ⟨ra,rb,hR⟩:=resR_two (addF (frN x.data.toList) (frS x.data.toList) (frD x.data.toList) (frN y.data.toList) (!frS y.data.toList && !decide (frN y.data.toList = 0)) (frD y.data.toList)).1 (addF (frN x.data.toList) (frS x.data.toList) (frD x.data.toList) (frN y.data.toList) (!frS y.data.toList && !decide (frN y.data.toList = 0)) (frD y.data.toList)).2 (frD x.data.toList * frD y.data.toList) false
  rw [hR] at C3 ⊢
  obtain ⟨lp,hlp⟩ : ∃ z,lowP (sgn (frN x.data.toList) (frS x.data.toList) * (frD y.data.toList : Int) + -(sgn (frN y.data.toList) (frS y.data.toList)) * (frD x.data.toList : Int)) ((frD x.data.toList : Int) * (frD y.data.toList : Int)) = z:=⟨_,rfl⟩
  obtain ⟨lq,hlq⟩ : ∃ z,lowQ (sgn (frN x.data.toList) (frS x.data.toList) * (frD y.data.toList : Int) + -(sgn (frN y.data.toList) (frS y.data.toList)) * (frD x.data.toList : Int)) ((frD x.data.toList : Int) * (frD y.data.toList : Int)) = z:=⟨_,rfl⟩
  rw [hlp,hlq] at C2 C3
  obtain ⟨z1,hz1⟩ : ∃ z,sgn (frN x.data.toList) (frS x.data.toList) = z:=⟨_,rfl⟩
  obtain ⟨z2,hz2⟩ : ∃ z : Int,(frD x.data.toList : Int) = z:=⟨_,rfl⟩
  obtain ⟨z3,hz3⟩ : ∃ z,sgn (frN y.data.toList) (frS y.data.toList) = z:=⟨_,rfl⟩
  obtain ⟨z4,hz4⟩ : ∃ z : Int,(frD y.data.toList : Int) = z:=⟨_,rfl⟩
  rw [hz1,hz2,hz3,hz4] at C
  rw [hz3,hz4] at C1
  rw [hz1,hz2,hz3,hz4] at C2
  clear hlp hlq hR lf hq hz1 hz2 hz3 hz4 l3n
  clear l1 l2 l3 l4 nx ny hx hy sx sy
  go_enter Tryz.func38,Tryz.ntmps38
  go_upto_region 4 with (first | (go_at_call 100;(with_reducible refine (C.out _).mono ?_);rintro e w1 ⟨v1,v2,rfl,hg1,hg2,hb1⟩;have HG1:=Lib.hid hg1;have HG2:=Lib.hid hg2;obtain ⟨t1,p1,k1,c1,t1',p1',k1',c1',rfl,_,_⟩:=hg1;obtain ⟨t2,p2,k2,c2,t2',p2',k2',c2',rfl,_,_⟩:=hg2;have hs1:=hb1.size))
  have k0:=range_cells4 w1 (.bool t1) (.slice p1 k1 c1) (.bool t1') (.slice p1' k1' c1') 117
  have hW : Below w1.heap.size w1 ((w1.alloc (.cells #[.bool t1,.slice p1 k1 c1,.bool t1',.slice p1' k1' c1'] 117)).alloc (.cells #[.bool t2,.slice p2 k2 c2,.bool t2',.slice p2' k2' c2'] 117)):=(by repeat' first | exact Below.refl _ _ | assumption | refine Below.setCell ?_ ?_ _ | refine Below.alloc ?_ ?_ _ | refine below_drewN ?_ | refine Below.drew ?_ | (simp;done) | (simp;omega))
  have hW1 : Below (w1.alloc (.cells #[.bool t1,.slice p1 k1 c1,.bool t1',.slice p1' k1' c1'] 117)).heap.size (w1.alloc (.cells #[.bool t1,.slice p1 k1 c1,.bool t1',.slice p1' k1' c1'] 117)) ((w1.alloc (.cells #[.bool t1,.slice p1 k1 c1,.bool t1',.slice p1' k1' c1'] 117)).alloc (.cells #[.bool t2,.slice p2 k2 c2,.bool t2',.slice p2' k2' c2'] 117)):=(Below.refl _ _).alloc (Nat.le_refl _) _
  have a0:=cell_kept k0.1 hW1;have a1:=cell_kept k0.2.1 hW1;have a2:=cell_kept k0.2.2.1 hW1;have a3:=cell_kept k0.2.2.2 hW1
  obtain ⟨b0,b1,b2,b3⟩:=range_cells4 (w1.alloc (.cells #[.bool t1,.slice p1 k1 c1,.bool t1',.slice p1' k1' c1'] 117)) (.bool t2) (.slice p2 k2 c2) (.bool t2') (.slice p2' k2' c2') 117
  have G1:=Lib.hid (HG1.out.keep hW);have G2:=Lib.hid (HG2.out.keep hW)
  have HLW:=Lib.hid (hb1.trans (hW.mono hs1))
  rw [show (w1.alloc (.cells #[.bool t1,.slice p1 k1 c1,.bool t1',.slice p1' k1' c1'] 117)).heap.size = w1.heap.size + 1 by simp] at b0 b1 b2 b3
  clear HG1 HG2 k0 hW hW1 hb1 hs1
  generalize (w1.alloc (.cells #[.bool t1,.slice p1 k1 c1,.bool t1',.slice p1' k1' c1'] 117)).alloc (.cells #[.bool t2,.slice p2 k2 c2,.bool t2',.slice p2' k2' c2'] 117) = W1 at *
  obtain ⟨D,hD⟩ : ∃ d,w1.heap.size = d:=⟨_,rfl⟩
  rw [hD] at a0 a1 a2 a3 b0 b1 b2 b3
  simp only [hD]
  clear hD
  have hZ:=HLW.out.size
  go_region_held3 (fun w'=>w'.cell? ⟨D,0,none⟩ = some (.bool t1)/\w'.cell? ⟨D,1,none⟩ = some (.slice p1 k1 c1)/\w'.cell? ⟨D,2,none⟩ = some (.bool t1')/\w'.cell? ⟨D,3,none⟩ = some (.slice p1' k1' c1')/\w'.cell? ⟨D + 1,0,none⟩ = some (.bool t2)/\w'.cell? ⟨D + 1,1,none⟩ = some (.slice p2 k2 c2)/\w'.cell? ⟨D + 1,2,none⟩ = some (.bool t2')/\w'.cell? ⟨D + 1,3,none⟩ = some (.slice p2' k2' c2')) (first | with_reducible exact ⟨a0,a1,a2,a3,b0,b1,b2,b3⟩ | with_reducible exact ⟨d0,d1,d2,d3,e0,e1,e2,e3⟩ | with_reducible exact ⟨f0,f1,f2,f3,g0,g1,g2,g3⟩ | with_reducible exact ⟨i0,i1,i2,i3,j0,j1,j2,j3⟩ | go_keep)
    (first
      | (go_at_call 104;(with_reducible refine (C1.out _ _ (G2.out.keep (by repeat' first | exact Below.refl _ _ | assumption | refine Below.setCell ?_ ?_ _ | refine Below.alloc ?_ ?_ _ | refine below_drewN ?_ | refine Below.drew ?_ | (simp;done) | (simp;omega)))).mono ?_);rintro e w4 ⟨v4,rfl,hg4,hb4⟩;have HG4:=Lib.hid hg4;obtain ⟨t4,p4,k4,c4,t4',p4',k4',c4',rfl,_,_⟩:=hg4;have hq4 : Below W1.heap.size W1 w4:=Below.trans (B:=W1.heap.size) (by repeat' first | exact Below.refl _ _ | assumption | refine Below.setCell ?_ ?_ _ | refine Below.alloc ?_ ?_ _ | refine below_drewN ?_ | refine Below.drew ?_ | (simp;done) | (simp;omega)) (Below.mono hb4 (by simp;done));have d0:=cell_kept a0 hq4;have d1:=cell_kept a1 hq4;have d2:=cell_kept a2 hq4;have d3:=cell_kept a3 hq4;have e0:=cell_kept b0 hq4;have e1:=cell_kept b1 hq4;have e2:=cell_kept b2 hq4;have e3:=cell_kept b3 hq4)
      | (go_at_call 102;(with_reducible refine (C2.out _ _ _ (G1.out.keep (by repeat' first | exact Below.refl _ _ | assumption | refine Below.setCell ?_ ?_ _ | refine Below.alloc ?_ ?_ _ | refine below_drewN ?_ | refine Below.drew ?_ | (simp;done) | (simp;omega))) (HG4.out.keep (by repeat' first | exact Below.refl _ _ | assumption | refine Below.setCell ?_ ?_ _ | refine Below.alloc ?_ ?_ _ | refine below_drewN ?_ | refine Below.drew ?_ | (simp;done) | (simp;omega)))).mono ?_);rintro e w2 ⟨v3,rfl,hg3,hb2⟩;have HG3:=Lib.hid hg3;obtain ⟨t3,p3,k3,c3,t3',p3',k3',c3',rfl,_,_⟩:=hg3;have hq2 : Below W1.heap.size W1 w2:=hq4.trans (Below.trans (a:=w4) (B:=W1.heap.size) (by repeat' first | exact Below.refl _ _ | assumption | refine Below.setCell ?_ ?_ _ | refine Below.alloc ?_ ?_ _ | refine below_drewN ?_ | refine Below.drew ?_ | (simp;done) | (simp;omega)) (Below.mono hb2 (by have:=hq4.size;simp;omega)));have f0:=cell_kept a0 hq2;have f1:=cell_kept a1 hq2;have f2:=cell_kept a2 hq2;have f3:=cell_kept a3 hq2;have g0:=cell_kept b0 hq2;have g1:=cell_kept b1 hq2;have g2:=cell_kept b2 hq2;have g3:=cell_kept b3 hq2)
      | (go_at_call 101;(with_reducible refine (C3.out _ _ (HG3.out.keep (by repeat' first | exact Below.refl _ _ | assumption | refine Below.setCell ?_ ?_ _ | refine Below.alloc ?_ ?_ _ | refine below_drewN ?_ | refine Below.drew ?_ | (simp;done) | (simp;omega)))).mono ?_);rintro e w3 ⟨rfl,hb3⟩;have hq3 : Below W1.heap.size W1 w3:=hq2.trans (Below.trans (a:=w2) (B:=W1.heap.size) (by repeat' first | exact Below.refl _ _ | assumption | refine Below.setCell ?_ ?_ _ | refine Below.alloc ?_ ?_ _ | refine below_drewN ?_ | refine Below.drew ?_ | (simp;done) | (simp;omega)) (Below.mono hb3 (by have:=hq2.size;simp;omega)));have i0:=cell_kept a0 hq3;have i1:=cell_kept a1 hq3;have i2:=cell_kept a2 hq3;have i3:=cell_kept a3 hq3;have j0:=cell_kept b0 hq3;have j1:=cell_kept b1 hq3;have j2:=cell_kept b2 hq3;have j3:=cell_kept b3 hq3))
  go_wp2_with fail
  go_ret2
  exact ⟨rfl,HLW.out.trans (hq3.mono HLW.out.size)⟩
set_option maxHeartbeats 4000000 in
set_option maxRecDepth 100000 in
theorem refDivReal_err (x y : ByteArray) (sx : x.size <= 300) (sy : y.size <= 300) (h0 : ckR2 x y ≠ 0) (w : World) : Calls Tryz.prog 42 #[.string x,.string y] w fun e w'=>e = .returned (errT (ckR2 x y))/\Below w.heap.size w w':=by
  have C:=Lib.hid (fun W=>refTwo_err x y sx sy h0 W)
  unfold errT
  obtain ⟨E,hE⟩ : ∃ E,ckR2 x y = E:=⟨_,rfl⟩
  rw [hE] at C h0 ⊢
  have d0 : (E != 0) = true:=by simpa using h0
  clear h0 hE sx sy
  go_enter Tryz.func42,Tryz.ntmps42
  go_wp2_with (go_at_call 100;(with_reducible refine (C.out _).mono ?_);rintro e w1 ⟨rfl,hb1⟩;have hs1:=hb1.size)
  go_ret2
  exact ⟨rfl,(by repeat' first | exact Below.refl _ _ | assumption | refine Below.setCell ?_ ?_ _ | refine Below.alloc ?_ ?_ _ | refine below_drewN ?_ | refine Below.drew ?_ | (simp;done) | (simp;omega))⟩
set_option maxHeartbeats 4000000 in
set_option maxRecDepth 100000 in
theorem refDivReal_ok (x y : ByteArray) (sx : x.size <= 300) (sy : y.size <= 300) (hx : Okq x) (hy : Okq y) (hn : frN y.data.toList ≠ 0) (w : World) : Calls Tryz.prog 42 #[.string x,.string y] w fun e w'=>e = .returned (resR (frN x.data.toList * frD y.data.toList) (mulS (frS x.data.toList) false (frN x.data.toList * frD y.data.toList)) (frD x.data.toList * frN y.data.toList) (mulS false (frS y.data.toList) (frD x.data.toList * frN y.data.toList)))/\Below w.heap.size w w':=by
  have C:=Lib.hid (fun W=>refTwo_ok x y sx sy hx hy W)
  obtain ⟨l1,l2⟩:=fr_sizes hx
  obtain ⟨l3,l4⟩:=fr_sizes hy
  have nx:=okq_nz hx;have ny:=okq_nz hy
  have hz : Qd.lsz (sgn (frN y.data.toList) (frS y.data.toList)).natAbs ≠ 0:=by rw [sgn_abs];exact fun e=>hn (Qd.lsz_eq_zero.1 e)
  have hq : (frD x.data.toList : Int) * sgn (frN y.data.toList) (frS y.data.toList) ≠ 0:=Int.mul_ne_zero (by omega) (by intro e;have:=congrArg Int.natAbs e;rw [sgn_abs] at this;exact hn this)
  have C2:=Lib.hid (fun W v1 v2 (g1 : FrAt W v1 (sgn (frN x.data.toList) (frS x.data.toList)) (frD x.data.toList : Int)) (g2 : FrAt W v2 (sgn (frN y.data.toList) (frS y.data.toList)) (frD y.data.toList : Int))=>refQuotient_any v1 v2 (sgn (frN x.data.toList) (frS x.data.toList)) (frD x.data.toList : Int) (sgn (frN y.data.toList) (frS y.data.toList)) (frD y.data.toList : Int) hq l1 l2 l3 l4 W g1 g2)
  have lf:=low_fit (P:=sgn (frN x.data.toList) (frS x.data.toList) * (frD y.data.toList : Int)) (Q:=(frD x.data.toList : Int) * sgn (frN y.data.toList) (frS y.data.toList)) (k:=130) (Nat.le_trans (mul_fit l1 l4) (by omega)) (Nat.le_trans (mul_fit l2 l3) (by omega))
  have C3:=Lib.hid (fun W v (g : FrAt W v (lowP (sgn (frN x.data.toList) (frS x.data.toList) * (frD y.data.toList : Int)) ((frD x.data.toList : Int) * sgn (frN y.data.toList) (frS y.data.toList))) (lowQ (sgn (frN x.data.toList) (frS x.data.toList) * (frD y.data.toList : Int)) ((frD x.data.toList : Int) * sgn (frN y.data.toList) (frS y.data.toList))))=>by have:=refWriteReal_any v _ _ (by omega) (by omega) W g;rwa [lowR (P:=sgn (frN x.data.toList) (frS x.data.toList) * (frD y.data.toList : Int)) (Q:=(frD x.data.toList : Int) * sgn (frN y.data.toList) (frS y.data.toList)) (p:=(frN x.data.toList * frD y.data.toList)) (s:=(mulS (frS x.data.toList) false (frN x.data.toList * frD y.data.toList))) (q:=(frD x.data.toList * frN y.data.toList)) (t:=(mulS false (frS y.data.toList) (frD x.data.toList * frN y.data.toList))) (by rw [mulS_sgn,sgn_f]) (by rw [mulS_sgn,sgn_f]) (Nat.mul_ne_zero nx hn)] at this)
  obtain ⟨ra,rb,hR⟩:=resR_two (frN x.data.toList * frD y.data.toList) (mulS (frS x.data.toList) false (frN x.data.toList * frD y.data.toList)) (frD x.data.toList * frN y.data.toList) (mulS false (frS y.data.toList) (frD x.data.toList * frN y.data.toList))
  rw [hR] at C3 ⊢
  obtain ⟨lp,hlp⟩ : ∃ z,lowP (sgn (frN x.data.toList) (frS x.data.toList) * (frD y.data.toList : Int)) ((frD x.data.toList : Int) * sgn (frN y.data.toList) (frS y.data.toList)) = z:=⟨_,rfl⟩
  obtain ⟨lq,hlq⟩ : ∃ z,lowQ (sgn (frN x.data.toList) (frS x.data.toList) * (frD y.data.toList : Int)) ((frD x.data.toList : Int) * sgn (frN y.data.toList) (frS y.data.toList)) = z:=⟨_,rfl⟩
  rw [hlp,hlq] at C2 C3
  obtain ⟨z1,hz1⟩ : ∃ z,sgn (frN x.data.toList) (frS x.data.toList) = z:=⟨_,rfl⟩
  obtain ⟨z2,hz2⟩ : ∃ z : Int,(frD x.data.toList : Int) = z:=⟨_,rfl⟩
  obtain ⟨z3,hz3⟩ : ∃ z,sgn (frN y.data.toList) (frS y.data.toList) = z:=⟨_,rfl⟩
  obtain ⟨z4,hz4⟩ : ∃ z : Int,(frD y.data.toList : Int) = z:=⟨_,rfl⟩
  rw [hz1,hz2,hz3,hz4] at C
  rw [hz1,hz2,hz3,hz4] at C2
  rw [hz3] at hz
  have HZ:=Lib.hid hz
  clear hz
  clear hlp hlq hR lf hq hz1 hz2 hz3 hz4 hn
  clear l1 l2 l3 l4 nx ny hx hy sx sy
  go_enter Tryz.func42,Tryz.ntmps42
  go_wp2_with (first
    | (go_at_call 100;(with_reducible refine (C.out _).mono ?_);rintro e w1 ⟨v1,v2,rfl,hg1,hg2,hb1⟩;have HG1:=Lib.hid hg1;have HG2:=Lib.hid hg2;obtain ⟨t1,p1,k1,c1,t1',p1',k1',c1',rfl,_,_⟩:=hg1;obtain ⟨t2,p2,k2,c2,t2',p2',k2',c2',rfl,hgp,_⟩:=hg2;have hk2:=hgp.size_eq;have e0 : ((k2 : Int) == 0) = false:=(by have:=HZ.out;simp;omega);have e1 : decide ((k2 : Int) = 0) = false:=(by have:=HZ.out;simp;omega);clear hgp hk2;have hs1:=hb1.size)
    | (go_at_call 110;(with_reducible refine (C2.out _ _ _ (HG1.out.keep (by repeat' first | exact Below.refl _ _ | assumption | refine Below.setCell ?_ ?_ _ | refine Below.alloc ?_ ?_ _ | refine below_drewN ?_ | refine Below.drew ?_ | (simp;done) | (simp;omega))) (HG2.out.keep (by repeat' first | exact Below.refl _ _ | assumption | refine Below.setCell ?_ ?_ _ | refine Below.alloc ?_ ?_ _ | refine below_drewN ?_ | refine Below.drew ?_ | (simp;done) | (simp;omega)))).mono ?_);rintro e w2 ⟨v3,rfl,hg3,hb2⟩;have HG3:=Lib.hid hg3;obtain ⟨t3,p3,k3,c3,t3',p3',k3',c3',rfl,_,_⟩:=hg3;have hl2 : Below w.heap.size w w2:=Below.trans (B:=w.heap.size) (by repeat' first | exact Below.refl _ _ | assumption | refine Below.setCell ?_ ?_ _ | refine Below.alloc ?_ ?_ _ | refine below_drewN ?_ | refine Below.drew ?_ | (simp;done) | (simp;omega)) (Below.mono hb2 (by simp;omega));have hs2:=hl2.size)
    | (go_at_call 101;(with_reducible refine (C3.out _ _ HG3.out).mono ?_);rintro e w3 ⟨rfl,hb3⟩;have hl3:=hl2.trans (hb3.mono hs2)))
  go_ret2
  exact ⟨rfl,hl3⟩
set_option maxHeartbeats 4000000 in
set_option maxRecDepth 100000 in
theorem refDivRealZ_ok (x y : ByteArray) (sx : x.size <= 300) (sy : y.size <= 300) (hx : Okq x) (hy : Okq y) (hn : frN y.data.toList = 0) (w : World) : Calls Tryz.prog 42 #[.string x,.string y] w fun e w'=>e = .returned (errT 30)/\Below w.heap.size w w':=by
  have C:=Lib.hid (fun W=>refTwo_ok x y sx sy hx hy W)
  obtain ⟨l1,l2⟩:=fr_sizes hx
  obtain ⟨l3,l4⟩:=fr_sizes hy
  have nx:=okq_nz hx;have ny:=okq_nz hy
  have hz : Qd.lsz (sgn (frN y.data.toList) (frS y.data.toList)).natAbs = 0:=by rw [sgn_abs,hn];exact Qd.lsz_zero
  obtain ⟨z3,hz3⟩ : ∃ z,sgn (frN y.data.toList) (frS y.data.toList) = z:=⟨_,rfl⟩
  rw [hz3] at hz C
  have HZ:=Lib.hid hz
  unfold errT
  clear hz hz3 hn
  clear l1 l2 l3 l4 nx ny hx hy sx sy
  go_enter Tryz.func42,Tryz.ntmps42
  go_wp2_with (go_at_call 100;(with_reducible refine (C.out _).mono ?_);rintro e w1 ⟨v1,v2,rfl,hg1,hg2,hb1⟩;have HG1:=Lib.hid hg1;have HG2:=Lib.hid hg2;obtain ⟨t1,p1,k1,c1,t1',p1',k1',c1',rfl,_,_⟩:=hg1;obtain ⟨t2,p2,k2,c2,t2',p2',k2',c2',rfl,hgp,_⟩:=hg2;have hk2:=hgp.size_eq;have hk3:=hk2.trans HZ.out;subst hk3;clear hgp hk2;have hs1:=hb1.size)
  go_ret2
  exact ⟨rfl,(by repeat' first | exact Below.refl _ _ | assumption | refine Below.setCell ?_ ?_ _ | refine Below.alloc ?_ ?_ _ | refine below_drewN ?_ | refine Below.drew ?_ | (simp;done) | (simp;omega))⟩
set_option maxHeartbeats 4000000 in
set_option maxRecDepth 100000 in
theorem refCompareReal_err (x y : ByteArray) (sx : x.size <= 300) (sy : y.size <= 300) (h0 : ckR2 x y ≠ 0) (w : World) : Calls Tryz.prog 44 #[.string x,.string y] w fun e w'=>e = .returned (.tuple #[.int .i64 0,.int .i64 (ckR2 x y)])/\Below w.heap.size w w':=by
  have C:=Lib.hid (fun W=>refTwo_err x y sx sy h0 W)
  obtain ⟨E,hE⟩ : ∃ E,ckR2 x y = E:=⟨_,rfl⟩
  rw [hE] at C h0 ⊢
  have d0 : (E != 0) = true:=by simpa using h0
  clear h0 hE sx sy
  go_enter Tryz.func44,Tryz.ntmps44
  go_wp2_with (go_at_call 100;(with_reducible refine (C.out _).mono ?_);rintro e w1 ⟨rfl,hb1⟩;have hs1:=hb1.size)
  go_ret2
  exact ⟨rfl,(by repeat' first | exact Below.refl _ _ | assumption | refine Below.setCell ?_ ?_ _ | refine Below.alloc ?_ ?_ _ | refine below_drewN ?_ | refine Below.drew ?_ | (simp;done) | (simp;omega))⟩
set_option maxHeartbeats 4000000 in
set_option maxRecDepth 100000 in
theorem refCompareReal_ok (x y : ByteArray) (sx : x.size <= 300) (sy : y.size <= 300) (hx : Okq x) (hy : Okq y) (w : World) : Calls Tryz.prog 44 #[.string x,.string y] w fun e w'=>e = .returned (.tuple #[.int .i64 (ocmp (sgn (frN x.data.toList) (frS x.data.toList) * (frD y.data.toList : Int)) (sgn (frN y.data.toList) (frS y.data.toList) * (frD x.data.toList : Int))),.int .i64 0])/\Below w.heap.size w w':=by
  have C:=Lib.hid (fun W=>refTwo_ok x y sx sy hx hy W)
  obtain ⟨l1,l2⟩:=fr_sizes hx
  obtain ⟨l3,l4⟩:=fr_sizes hy
  have nx:=okq_nz hx;have ny:=okq_nz hy
  have C2:=Lib.hid (fun W v1 v2 (g1 : FrAt W v1 (sgn (frN x.data.toList) (frS x.data.toList)) (frD x.data.toList : Int)) (g2 : FrAt W v2 (sgn (frN y.data.toList) (frS y.data.toList)) (frD y.data.toList : Int))=>refBefore_any v1 v2 (sgn (frN x.data.toList) (frS x.data.toList)) (frD x.data.toList : Int) (sgn (frN y.data.toList) (frS y.data.toList)) (frD y.data.toList : Int) l1 l2 l3 l4 W g1 g2)
  obtain ⟨r,hr⟩ : ∃ r,ocmp (sgn (frN x.data.toList) (frS x.data.toList) * (frD y.data.toList : Int)) (sgn (frN y.data.toList) (frS y.data.toList) * (frD x.data.toList : Int)) = r:=⟨_,rfl⟩
  rw [hr] at C2 ⊢
  obtain ⟨z1,hz1⟩ : ∃ z,sgn (frN x.data.toList) (frS x.data.toList) = z:=⟨_,rfl⟩
  obtain ⟨z2,hz2⟩ : ∃ z : Int,(frD x.data.toList : Int) = z:=⟨_,rfl⟩
  obtain ⟨z3,hz3⟩ : ∃ z,sgn (frN y.data.toList) (frS y.data.toList) = z:=⟨_,rfl⟩
  obtain ⟨z4,hz4⟩ : ∃ z : Int,(frD y.data.toList : Int) = z:=⟨_,rfl⟩
  rw [hz1,hz2,hz3,hz4] at C
  rw [hz1,hz2,hz3,hz4] at C2
  clear hr hz1 hz2 hz3 hz4
  clear l1 l2 l3 l4 nx ny hx hy sx sy
  go_enter Tryz.func44,Tryz.ntmps44
  go_wp2_with (first
    | (go_at_call 100;(with_reducible refine (C.out _).mono ?_);rintro e w1 ⟨v1,v2,rfl,hg1,hg2,hb1⟩;have HG1:=Lib.hid hg1;have HG2:=Lib.hid hg2;obtain ⟨t1,p1,k1,c1,t1',p1',k1',c1',rfl,_,_⟩:=hg1;obtain ⟨t2,p2,k2,c2,t2',p2',k2',c2',rfl,_,_⟩:=hg2;have hs1:=hb1.size)
    | (go_at_call 112;(with_reducible refine (C2.out _ _ _ (HG1.out.keep (by repeat' first | exact Below.refl _ _ | assumption | refine Below.setCell ?_ ?_ _ | refine Below.alloc ?_ ?_ _ | refine below_drewN ?_ | refine Below.drew ?_ | (simp;done) | (simp;omega))) (HG2.out.keep (by repeat' first | exact Below.refl _ _ | assumption | refine Below.setCell ?_ ?_ _ | refine Below.alloc ?_ ?_ _ | refine below_drewN ?_ | refine Below.drew ?_ | (simp;done) | (simp;omega)))).mono ?_);rintro e w2 ⟨rfl,hb2⟩;have hl2 : Below w.heap.size w w2:=Below.trans (B:=w.heap.size) (by repeat' first | exact Below.refl _ _ | assumption | refine Below.setCell ?_ ?_ _ | refine Below.alloc ?_ ?_ _ | refine below_drewN ?_ | refine Below.drew ?_ | (simp;done) | (simp;omega)) (Below.mono hb2 (by simp;omega))))
  go_ret2
  exact ⟨rfl,hl2⟩
end Go.Proofs.YtpbegoflpfdajaaGreatDoor

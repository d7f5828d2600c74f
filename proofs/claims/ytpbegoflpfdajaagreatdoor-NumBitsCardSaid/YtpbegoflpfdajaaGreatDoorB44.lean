/- WHAT IS PROVED: contracts of functions of the numbers package and laws for them, used by the last text of this claim. CONDITIONS: stated at each theorem. -/
import Derived.Test.YtpbegoflpfdajaaGreatDoorB43
import Derived.Test.YtpbegoflpfdajaaGreatDoorB33
import Derived.Laws.EntriesVeiled
import Derived.Lib.AtoiAllCases
namespace Go.Proofs.YtpbegoflpfdajaaGreatDoor
section
open Go.RowKit
open Qd (lims)
structure Pwr (w : World) (R H : Nat) (P : Int) (b7 : Bool) (s7 : Value) (W : World) : Prop where
  c0 : W.cell? ⟨H,0,none⟩ = some (.bool b7)
  c1 : W.cell? ⟨H,1,none⟩ = some s7
  f0 : W.frozen? ⟨H,0,none⟩ = false
  f1 : W.frozen? ⟨H,1,none⟩ = false
  r0 : W.cell? ⟨R,0,none⟩ = some (.bool false)
  r1 : W.cell? ⟨R,1,none⟩ = some (.slice none 0 0)
  q0 : W.frozen? ⟨R,0,none⟩ = false
  q1 : W.frozen? ⟨R,1,none⟩ = false
  g7 : BigAt W (.agg #[.bool b7,s7]) P
  low : Below w.heap.size w W
  from' : w.heap.size <= R
  above : R < H
  size : H < W.heap.size
theorem Pwr.keep {w W W' : World} {R H : Nat} {P : Int} {b7 : Bool} {s7 : Value} (h : Pwr w R H P b7 s7 W) (hb : Below W.heap.size W W') : Pwr w R H P b7 s7 W':=by
  obtain ⟨c0,c1,f0,f1,r0,r1,q0,q1,g7,low,fr,above,size⟩:=h
  exact { c0:=cell_kept c0 hb,c1:=cell_kept c1 hb,f0:=frozen_kept f0 hb (by simp;omega),f1:=frozen_kept f1 hb (by simp;omega),r0:=cell_kept r0 hb,r1:=cell_kept r1 hb,q0:=frozen_kept q0 hb (by simp;omega),q1:=frozen_kept q1 hb (by simp;omega),g7:=g7.keep hb,low:=low.trans (hb.mono low.size),from':=fr,above:=above,size:=by have:=hb.size;omega }
theorem Pwr.next {w W : World} {R H : Nat} {P Q : Int} {b7 b9 : Bool} {s7 s9 : Value} (h : Pwr w R H P b7 s7 W) (hq : BigAt W (.agg #[.bool b9,s9]) Q) : Pwr w R H Q b9 s9 ((W.setCell ⟨H,0,none⟩ (.bool b9)).setCell ⟨H,1,none⟩ s9):=by
  obtain ⟨c0,c1,f0,f1,r0,r1,q0,q1,g7,low,fr,above,size⟩:=h
  have n1 : R ≠ H:=by omega
  exact {
    c0:=set_cell (World.cell?_setCell_same _ _ _ c0) (by omega)
    c1:=World.cell?_setCell_same _ _ _ (set_cell c1 (by omega))
    f0:=set_frozen (set_frozen f0)
    f1:=set_frozen (set_frozen f1)
    r0:=cell_set (cell_set r0 n1) n1
    r1:=cell_set (cell_set r1 n1) n1
    q0:=set_frozen (set_frozen q0)
    q1:=set_frozen (set_frozen q1)
    g7:=hq.set2 c0 _ _
    low:=(low.setCell (p:=⟨H,0,none⟩) (by simp;omega) _).setCell (p:=⟨H,1,none⟩) (by simp;omega) _
    from':=fr
    above:=above
    size:=by simpa using size }
theorem two_lsz {j : Nat} (h : j <= 64) : Qd.lsz ((2 : Int) ^ j).natAbs <= 5:=by
  refine (Qd.lsz_le_iff 5 _).2 ?_
  rw [Int.natAbs_pow]
  have h1 : (2 : Nat) ^ j <= 2 ^ 64:=Nat.pow_le_pow_right (by omega) h
  have h2 : Qd.bb ^ 5 = 100000000000000000000:=rfl
  have h3 : (2 : Nat) ^ 64 = 18446744073709551616:=rfl
  have h4 : (2 : Int).natAbs = 2:=rfl
  rw [h4]
  omega
set_option maxHeartbeats 4000000 in
set_option maxRecDepth 100000 in
theorem refPower_any (N : Nat) (hN : N <= 64) (w : World) : Calls Tryz.prog 126 #[.int .i64 N] w fun e w'=>∃ v,e = .returned v/\BigAt w' v (2 ^ N)/\Below w.heap.size w w':=by
  have C1:=Lib.hid (fun W=>refSmall_any 1 (by omega) (by omega) W)
  have CT:=Lib.hid (fun W v j (h : j < N) (g : BigAt W v (2 ^ j))=>by have:=refPlus_any v v (2 ^ j) (2 ^ j) (by have:=two_lsz (j:=j) (by omega);omega) (by have:=two_lsz (j:=j) (by omega);omega) W g g;rwa [show (2 : Int) ^ j + 2 ^ j = 2 ^ (j + 1) by rw [Int.pow_succ];omega] at this)
  go_enter Tryz.func126,Tryz.ntmps126
  go_wp2_with (go_at_call 68;(with_reducible refine (C1.out _).mono ?_);rintro e w1 ⟨v1,rfl,hg1,hb1⟩;obtain ⟨b3,p3,k3,c3,rfl⟩:=hg1.shape)
  have hs1 : w.heap.size + 1 <= w1.heap.size:=by have:=hb1.size;simpa using this
  have hl1 : Below w.heap.size w w1:=Below.trans (b:=w.alloc (Obj.cells #[.bool false,.slice none 0 0] 74)) (by repeat' first | exact Below.refl _ _ | assumption | refine Below.setCell ?_ ?_ _ | refine Below.alloc ?_ ?_ _ | refine below_drewN ?_ | refine Below.drew ?_ | (simp;done) | (simp;omega)) (hb1.mono (by simp))
  have hP : Pwr w w.heap.size w1.heap.size (2 ^ 0) b3 (.slice p3 k3 c3) (w1.alloc (.cells #[.bool b3,.slice p3 k3 c3] 74)):=by
    have hb2 : Below w1.heap.size w1 (w1.alloc (.cells #[.bool b3,.slice p3 k3 c3] 74)):=(by repeat' first | exact Below.refl _ _ | assumption | refine Below.setCell ?_ ?_ _ | refine Below.alloc ?_ ?_ _ | refine below_drewN ?_ | refine Below.drew ?_ | (simp;done) | (simp;omega))
    exact { c0:=by go_simp,c1:=by go_simp,f0:=by go_simp,f1:=by go_simp,r0:=cell_kept (cell_kept (by go_simp) hb1) hb2,r1:=cell_kept (cell_kept (by go_simp) hb1) hb2,q0:=frozen_kept (frozen_kept (by go_simp) hb1 (by simp)) hb2 (by simp;omega),q1:=frozen_kept (frozen_kept (by go_simp) hb1 (by simp)) hb2 (by simp;omega),g7:=by rw [Int.pow_zero];exact hg1.keep hb2,low:=hl1.trans (hb2.mono hl1.size),from':=Nat.le_refl _,above:=by omega,size:=by simp }
  have HP:=Lib.hid hP
  clear hP hb1 hg1 hl1
  obtain ⟨H,hHe⟩ : ∃ H,w1.heap.size = H:=⟨_,rfl⟩
  rw [hHe] at HP hs1
  generalize (w1.alloc (Obj.cells #[.bool b3,.slice p3 k3 c3] 74)) = W4 at *
  simp only [hHe]
  clear hHe w1
  go_loopw [4] (fun vi wr=>∃ j : Nat,∃ b7 p7 k7 c7,j <= N/\vi = .int .i64 j/\Pwr w w.heap.size H (2 ^ j) b7 (.slice p7 k7 c7) wr) (fun vi _=>N - (intOf vi).toNat)
  case atStart=>exact ⟨0,b3,p3,k3,c3,by omega,rfl,HP.out⟩
  case round =>
    obtain ⟨j,b7,p7,k7,c7,hj,rfl,hP⟩:=hrel
    have HPW:=Lib.hid hP
    obtain ⟨c0,c1,f0,f1,r0,r1,q0,q1,g7,low,_,above,size⟩:=hP
    by_cases hlt : j < N
    · have dl : decide ((j : Int) < (N : Int)) = true:=by simp;omega
      have CTj:=Lib.hid (CT.out wr _ j hlt g7)
      clear g7 low r0 r1 q0 q1
      go_wp2_with (go_at_call 80;(with_reducible refine (CTj.out).mono ?_);rintro e w5 ⟨v5,rfl,hg5,hb5⟩;obtain ⟨b9,p9,k9,c9,rfl⟩:=hg5.shape;have hP5:=HPW.out.keep hb5;have hP6:=hP5.next hg5;have x0:=hP5.c0;have x1:=hP5.c1;have y0:=hP5.f0;have y1:=hP5.f1;have HP6:=Lib.hid hP6;clear hP5 hP6)
      go_roundw
      case rel=>exact ⟨j + 1,b9,p9,k9,c9,by omega,by go_num,HP6.out⟩
      case measure=>simp [intOf];omega
    · obtain rfl : j = N:=by omega
      have dl : decide ((j : Int) < (j : Int)) = false:=by simp
      have hne : w.heap.size ≠ H:=by omega
      have HL:=Lib.hid low;have HG:=Lib.hid g7;have HR0:=Lib.hid r0;have HR1:=Lib.hid r1
      clear g7 low
      go_wp2
      refine ret74 Tryz.results126 _ rfl (.bool b7) (.slice p7 k7 c7) (set_cell (World.cell?_setCell_same _ _ _ HR0.out) (by omega)) (World.cell?_setCell_same _ _ _ (set_cell HR1.out (by omega))) rfl ?_
      exact ⟨_,rfl,HG.out.set2 HR0.out _ _,(HL.out.setCell (p:=⟨w.heap.size,0,none⟩) (by simp) _).setCell (p:=⟨w.heap.size,1,none⟩) (by simp) _⟩
end
section
open Go.RowKit
open Qd (lims)
set_option maxHeartbeats 2000000 in
set_option maxRecDepth 100000 in
theorem refWrap_err (x : ByteArray) (n : Int) (sx : x.size <= 300) (h0 : firstE [ckL x.data.toList,if n < 1 ∨ 64 < n then 3 else 0] ≠ 0) (w : World) : Calls Tryz.prog 56 #[.string x,.int .i64 n] w fun e w'=>e = .returned (errT (firstE [ckL x.data.toList,if n < 1 ∨ 64 < n then 3 else 0]))/\Below w.heap.size w w':=by
  have Cx:=Lib.hid (fun W=>refCheck_any x (by omega) W)
  have CW:=Lib.hid (fun b W=>refWhen_any b 3 W)
  unfold errT
  obtain ⟨E1,h1⟩ : ∃ E,ckL x.data.toList = E:=⟨_,rfl⟩
  rw [h1] at Cx h0 ⊢
  rcases (show n < 1 ∨ (¬ n < 1/\64 < n) ∨ (¬ n < 1/\¬ 64 < n) by omega) with h | ⟨h,h'⟩ | ⟨h,h'⟩
  · rw [if_pos (Or.inl h)] at h0 ⊢
    have CWb:=Lib.hid (CW.out true)
    rw [if_pos rfl] at CWb
    have d1:=decide_eq_true h
    obtain ⟨E,hE⟩ : ∃ E,firstE [E1,3] = E:=⟨_,rfl⟩
    rw [hE] at h0 ⊢
    have d0 : (E != 0) = true:=by simpa using h0
    clear h h0 h1 CW sx
    go_enter Tryz.func56,Tryz.ntmps56
    go_wp2_with (first
      | (go_at_call 13;(with_reducible refine (Cx.out _).mono ?_);rintro e wa ⟨rfl,hw⟩;subst wa)
      | (go_at_call 65;(with_reducible refine (CWb.out _).mono ?_);rintro e wb ⟨rfl,hw⟩;subst wb)
      | (go_at_call 79;(with_reducible refine (refFirst_any _ 2 2 [E1,3] rfl (by omega) _ (pair_cells _ E1 3 3)).mono ?_);rintro e wc ⟨rfl,hw⟩;subst wc;rw [hE]))
    go_ret2
    exact ⟨rfl,(by repeat' first | exact Below.refl _ _ | assumption | refine Below.setCell ?_ ?_ _ | refine Below.alloc ?_ ?_ _ | refine below_drewN ?_ | refine Below.drew ?_ | (simp;done) | (simp;omega))⟩
  · rw [if_pos (Or.inr h')] at h0 ⊢
    have CWb:=Lib.hid (CW.out true)
    rw [if_pos rfl] at CWb
    have d1:=decide_eq_false h
    have d2:=decide_eq_true h'
    obtain ⟨E,hE⟩ : ∃ E,firstE [E1,3] = E:=⟨_,rfl⟩
    rw [hE] at h0 ⊢
    have d0 : (E != 0) = true:=by simpa using h0
    clear h h' h0 h1 CW sx
    go_enter Tryz.func56,Tryz.ntmps56
    go_wp2_with (first
      | (go_at_call 13;(with_reducible refine (Cx.out _).mono ?_);rintro e wa ⟨rfl,hw⟩;subst wa)
      | (go_at_call 65;(with_reducible refine (CWb.out _).mono ?_);rintro e wb ⟨rfl,hw⟩;subst wb)
      | (go_at_call 79;(with_reducible refine (refFirst_any _ 2 2 [E1,3] rfl (by omega) _ (pair_cells _ E1 3 3)).mono ?_);rintro e wc ⟨rfl,hw⟩;subst wc;rw [hE]))
    go_ret2
    exact ⟨rfl,(by repeat' first | exact Below.refl _ _ | assumption | refine Below.setCell ?_ ?_ _ | refine Below.alloc ?_ ?_ _ | refine below_drewN ?_ | refine Below.drew ?_ | (simp;done) | (simp;omega))⟩
  · rw [if_neg (by omega)] at h0 ⊢
    have CWb:=Lib.hid (CW.out false)
    rw [if_neg (by decide)] at CWb
    have d1:=decide_eq_false h
    have d2:=decide_eq_false h'
    obtain ⟨E,hE⟩ : ∃ E,firstE [E1,0] = E:=⟨_,rfl⟩
    rw [hE] at h0 ⊢
    have d0 : (E != 0) = true:=by simpa using h0
    clear h h' h0 h1 CW sx
    go_enter Tryz.func56,Tryz.ntmps56
    go_wp2_with (first
      | (go_at_call 13;(with_reducible refine (Cx.out _).mono ?_);rintro e wa ⟨rfl,hw⟩;subst wa)
      | (go_at_call 65;(with_reducible refine (CWb.out _).mono ?_);rintro e wb ⟨rfl,hw⟩;subst wb)
      | (go_at_call 79;(with_reducible refine (refFirst_any _ 2 2 [E1,0] rfl (by omega) _ (pair_cells _ E1 0 3)).mono ?_);rintro e wc ⟨rfl,hw⟩;subst wc;rw [hE]))
    go_ret2
    exact ⟨rfl,(by repeat' first | exact Below.refl _ _ | assumption | refine Below.setCell ?_ ?_ _ | refine Below.alloc ?_ ?_ _ | refine below_drewN ?_ | refine Below.drew ?_ | (simp;done) | (simp;omega))⟩
theorem two_pos (k : Nat) : (0 : Int) < 2 ^ k:=Int.pow_pos (by omega)
theorem mod_two_fit (z : Int) {k : Nat} (h : k <= 64) : (z % 2 ^ k).natAbs < 10 ^ 120:=by
  have h1:=Int.emod_nonneg z (show (2 : Int) ^ k ≠ 0 by have:=two_pos k;omega)
  have h2:=Int.emod_lt_of_pos z (two_pos k)
  have h3 : (2 : Nat) ^ k <= 2 ^ 64:=Nat.pow_le_pow_right (by omega) h
  have h4 : ((2 : Int) ^ k).natAbs = 2 ^ k:=Int.natAbs_pow 2 k
  have h6 : (2 : Nat) ^ 64 = 18446744073709551616:=by decide
  have h5 : (18446744073709551616 : Nat) <= 10 ^ 120:=by decide
  omega
set_option maxHeartbeats 4000000 in
set_option maxRecDepth 100000 in
theorem refWrap_ok (x : ByteArray) (k : Nat) (hk1 : 1 <= k) (hk : k <= 64) (sx : x.size <= 300) (o1 : Okz x) (w : World) : Calls Tryz.prog 56 #[.string x,.int .i64 k] w fun e w'=>e = .returned (.tuple #[.string (tz (vz x % 2 ^ k)),.int .i64 0])/\Below w.heap.size w w':=by
  have Cx:=Lib.hid (fun W=>refCheck_any x (by omega) W)
  have e1 : ckL x.data.toList = 0:=o1
  rw [e1] at Cx
  have CWb:=Lib.hid (fun W=>refWhen_any false 3 W)
  rw [show (if false = true then (3 : Int) else 0) = 0 from rfl] at CWb
  have hf2 : firstE [(0 : Int),0] = 0:=rfl
  have Rx:=Lib.hid (fun W=>refReadZ x o1 W)
  have CP:=Lib.hid (fun W=>refPower_any k hk W)
  have b1:=lsz_okz o1
  have fr:=mod_two_fit (vz x) hk
  have CO:=Lib.hid (fun W v1 v2 (g1 : BigAt W v1 (vz x)) (g2 : BigAt W v2 (2 ^ k))=>refOver_any v1 v2 (vz x) (2 ^ k) (by have:=two_pos k;omega) (by omega) (by have:=two_lsz hk;omega) W g1 g2)
  have Cr:=Lib.hid (fun W v (g : BigAt W v (vz x % 2 ^ k))=>by have:=refResult_any v (vz x % 2 ^ k) (by have:=lsz_fit fr;omega) W g;rw [resI_fit fr] at this;exact this)
  have d1 : decide ((k : Int) < 1) = false:=by simp;omega
  have d2 : decide ((64 : Int) < (k : Int)) = false:=by simp;omega
  obtain ⟨tr,htr⟩ : ∃ t,tz (vz x % 2 ^ k) = t:=⟨_,rfl⟩
  obtain ⟨q,hq⟩ : ∃ t,vz x / 2 ^ k = t:=⟨_,rfl⟩
  obtain ⟨r,hr⟩ : ∃ t,vz x % 2 ^ k = t:=⟨_,rfl⟩
  obtain ⟨P,hP⟩ : ∃ t : Int,2 ^ k = t:=⟨_,rfl⟩
  rw [htr] at Cr ⊢
  rw [hq] at CO
  rw [hr] at Cr CO
  rw [hP] at CP CO
  clear fr e1 htr hq hr hP o1 b1 sx
  go_enter Tryz.func56,Tryz.ntmps56
  go_wp2_with (first
      | (go_at_call 13;(with_reducible refine (Cx.out _).mono ?_);rintro e wa ⟨rfl,hw⟩;subst wa)
      | (go_at_call 65;(with_reducible refine (CWb.out _).mono ?_);rintro e wb ⟨rfl,hw⟩;subst wb)
      | (go_at_call 79;(with_reducible refine (refFirst_any _ 2 2 [(0 : Int),0] rfl (by omega) _ (pair_cells _ 0 0 3)).mono ?_);rintro e wc ⟨rfl,hw⟩;subst wc;rw [hf2])
      | (go_at_call 70;(with_reducible refine (Rx.out _).mono ?_);rintro e w1 ⟨v1,rfl,hg1,hb1⟩;obtain ⟨b3,p3,k3,c3,rfl⟩:=hg1.shape;have hl1:=Below.trans (a:=w) (B:=w.heap.size) (by repeat' first | exact Below.refl _ _ | assumption | refine Below.setCell ?_ ?_ _ | refine Below.alloc ?_ ?_ _ | refine below_drewN ?_ | refine Below.drew ?_ | (simp;done) | (simp;omega)) (Below.mono hb1 (Below.size (B:=w.heap.size) (w:=w) (by repeat' first | exact Below.refl _ _ | assumption | refine Below.setCell ?_ ?_ _ | refine Below.alloc ?_ ?_ _ | refine below_drewN ?_ | refine Below.drew ?_ | (simp;done) | (simp;omega))));clear hb1)
      | (go_at_call 126;(with_reducible refine (CP.out _).mono ?_);rintro e w2 ⟨v2,rfl,hg2,hb2⟩;obtain ⟨b4,p4,k4,c4,rfl⟩:=hg2.shape;have hl2:=Below.trans hl1 (Below.mono hb2 (Below.size hl1));have hg1':=hg1.keep hb2;clear hb2)
      | (go_at_call 91;(with_reducible refine (CO.out _ _ _ hg1' hg2).mono ?_);rintro e w3 ⟨vq,vr,rfl,hgq,hgr,hb3⟩;obtain ⟨b5,p5,k5,c5,rfl⟩:=hgq.shape;obtain ⟨b6,p6,k6,c6,rfl⟩:=hgr.shape;have hl3:=Below.trans hl2 (Below.mono hb3 (Below.size hl2));clear hb3;have hgr4:=hgr.keep (show Below w3.heap.size w3 ((w3.alloc (.cells #[.bool b5,.slice p5 k5 c5] 74)).alloc (.cells #[.bool b6,.slice p6 k6 c6] 74)) from (by repeat' first | exact Below.refl _ _ | assumption | refine Below.setCell ?_ ?_ _ | refine Below.alloc ?_ ?_ _ | refine below_drewN ?_ | refine Below.drew ?_ | (simp;done) | (simp;omega)));have hs3:=hl3.size)
      | (go_at_call 75;(with_reducible refine (Cr.out _ _ hgr4).mono ?_);rintro e w5 ⟨rfl,hb5⟩;have hl4 : Below w.heap.size w ((w3.alloc (.cells #[.bool b5,.slice p5 k5 c5] 74)).alloc (.cells #[.bool b6,.slice p6 k6 c6] 74)):=(by repeat' first | exact Below.refl _ _ | assumption | refine Below.setCell ?_ ?_ _ | refine Below.alloc ?_ ?_ _ | refine below_drewN ?_ | refine Below.drew ?_ | (simp;done) | (simp;omega));have hl5:=Below.trans hl4 (Below.mono hb5 (Below.size hl4))))
  go_ret2
  exact ⟨rfl,hl5⟩
end
section
open Go.RowKit
open Qd (lims)
set_option maxHeartbeats 2000000 in
set_option maxRecDepth 100000 in
theorem refCb_err (x : ByteArray) (k : Int) (sx : x.size <= 300) (h0 : ckL x.data.toList ≠ 0) (w : World) : Calls Tryz.prog 130 #[.string x,.int .i64 k] w fun e w'=>e = .returned (.int .i64 (ckL x.data.toList))/\Below w.heap.size w w':=by
  have Cx:=Lib.hid (fun W=>refCheck_any x (by omega) W)
  obtain ⟨E,h1⟩ : ∃ E,ckL x.data.toList = E:=⟨_,rfl⟩
  rw [h1] at Cx h0 ⊢
  have d0 : (E != 0) = true:=by simpa using h0
  clear h1 h0 sx
  go_enter Tryz.func130,Tryz.ntmps130
  go_wp2_with (go_at_call 13;(with_reducible refine (Cx.out _).mono ?_);rintro e wa ⟨rfl,hw⟩;subst wa)
  go_ret
  exact ⟨rfl,(by repeat' first | exact Below.refl _ _ | assumption | refine Below.setCell ?_ ?_ _ | refine Below.alloc ?_ ?_ _ | refine below_drewN ?_ | refine Below.drew ?_ | (simp;done) | (simp;omega))⟩
set_option maxHeartbeats 2000000 in
set_option maxRecDepth 100000 in
theorem refCb_minus (x : ByteArray) (k : Int) (sx : x.size <= 300) (o1 : ckL x.data.toList = 0) (n : Nat) (hsz : x.size = n + 1) (hp0 : 0 < x.size) (h45 : (x[0]'hp0).toNat = 45) (w : World) : Calls Tryz.prog 130 #[.string x,.int .i64 k] w fun e w'=>e = .returned (.int .i64 3)/\Below w.heap.size w w':=by
  have Cx:=Lib.hid (fun W=>refCheck_any x (by omega) W)
  rw [o1] at Cx
  have CWb:=Lib.hid (fun W=>refWhen_any true 3 W)
  rw [show (if true = true then (3 : Int) else 0) = 3 from rfl] at CWb
  clear o1
  go_enter Tryz.func130,Tryz.ntmps130
  go_wp2_with (first
    | (go_at_call 13;(with_reducible refine (Cx.out _).mono ?_);rintro e wa ⟨rfl,hw⟩;subst wa)
    | (go_at_call 65;(with_reducible refine (CWb.out _).mono ?_);rintro e wb ⟨rfl,hw⟩;subst wb))
  go_ret
  exact ⟨rfl,(by repeat' first | exact Below.refl _ _ | assumption | refine Below.setCell ?_ ?_ _ | refine Below.alloc ?_ ?_ _ | refine below_drewN ?_ | refine Below.drew ?_ | (simp;done) | (simp;omega))⟩
set_option maxHeartbeats 2000000 in
set_option maxRecDepth 100000 in
theorem refCb_plus (x : ByteArray) (k : Nat) (hk : k <= 64) (sx : x.size <= 300) (o1 : Okz x) (n c : Nat) (hsz : x.size = n) (hp0 : 0 < x.size) (hc : (x[0]'hp0).toNat = c) (h45 : c ≠ 45) (w : World) : Calls Tryz.prog 130 #[.string x,.int .i64 k] w fun e w'=>e = .returned (.int .i64 (if 2 ^ k <= vz x then 3 else 0))/\Below w.heap.size w w':=by
  have Cx:=Lib.hid (fun W=>refCheck_any x (by omega) W)
  have e1 : ckL x.data.toList = 0:=o1
  rw [e1] at Cx
  have CW:=Lib.hid (fun b W=>refWhen_any b 3 W)
  have Rx:=Lib.hid (fun W=>refReadZ x o1 W)
  have CP:=Lib.hid (fun W=>refPower_any k hk W)
  have b1:=lsz_okz o1
  have CO:=Lib.hid (fun W v1 v2 (g1 : BigAt W v1 (vz x)) (g2 : BigAt W v2 (2 ^ k))=>refOrder_any v1 v2 (vz x) (2 ^ k) (by omega) (by have:=two_lsz hk;omega) W g1 g2)
  have h45 : ((c : Int) == 45) = false:=by simp;omega
  have hd : ∃ r b,ocmp (vz x) (2 ^ k) = r/\decide (0 <= r) = b/\(if b then (3 : Int) else 0) = if 2 ^ k <= vz x then 3 else 0:=by
    refine ⟨_,_,rfl,rfl,?_⟩
    unfold ocmp
    by_cases h : vz x < 2 ^ k
    · rw [if_pos h,if_neg (show ¬ 2 ^ k <= vz x by omega)];rfl
    · rw [if_neg h,if_pos (show 2 ^ k <= vz x by omega)];split <;> rfl
  obtain ⟨r,b,hr,hb,hv⟩:=hd
  rw [hr] at CO
  rw [<- hv]
  obtain ⟨X,hX⟩ : ∃ X,vz x = X:=⟨_,rfl⟩
  obtain ⟨P,hP⟩ : ∃ X : Int,2 ^ k = X:=⟨_,rfl⟩
  rw [hX] at Rx CO
  rw [hP] at CP CO
  have CWb:=Lib.hid (CW.out b)
  obtain ⟨V,hV⟩ : ∃ V : Int,(if b then 3 else 0) = V:=⟨_,rfl⟩
  rw [hV] at CWb ⊢
  clear o1 e1 b1 hr hv hX hP CW hV
  go_enter Tryz.func130,Tryz.ntmps130
  go_wp2_with (first
    | (go_at_call 13;(with_reducible refine (Cx.out _).mono ?_);rintro e wa ⟨rfl,hw⟩;subst wa)
    | (go_at_call 70;(with_reducible refine (Rx.out _).mono ?_);rintro e w1 ⟨v1,rfl,hg1,hb1⟩;obtain ⟨b3,p3,k3,c3,rfl⟩:=hg1.shape;have hl1:=Below.trans (a:=w) (B:=w.heap.size) (by repeat' first | exact Below.refl _ _ | assumption | refine Below.setCell ?_ ?_ _ | refine Below.alloc ?_ ?_ _ | refine below_drewN ?_ | refine Below.drew ?_ | (simp;done) | (simp;omega)) (Below.mono hb1 (Below.size (B:=w.heap.size) (w:=w) (by repeat' first | exact Below.refl _ _ | assumption | refine Below.setCell ?_ ?_ _ | refine Below.alloc ?_ ?_ _ | refine below_drewN ?_ | refine Below.drew ?_ | (simp;done) | (simp;omega))));clear hb1)
    | (go_at_call 126;(with_reducible refine (CP.out _).mono ?_);rintro e w2 ⟨v2,rfl,hg2,hb2⟩;obtain ⟨b4,p4,k4,c4,rfl⟩:=hg2.shape;have hl2:=Below.trans hl1 (Below.mono hb2 (Below.size hl1));have hg1':=hg1.keep hb2;clear hb2)
    | (go_at_call 71;(with_reducible refine (CO.out _ _ _ hg1' hg2).mono ?_);rintro e w3 ⟨rfl,hb3⟩;have hl3:=Below.trans hl2 (Below.mono hb3 (Below.size hl2)))
    | (go_at_call 65;(with_reducible refine (CWb.out _).mono ?_);rintro e wb ⟨rfl,hw⟩;subst wb))
  go_ret
  exact ⟨rfl,hl3⟩
end
section
open Go.RowKit
open Go.Lib (decDigits nDigits decDigits_length)
end
section
open Go.RowKit
open Go.Lib (decDigits nDigits decDigits_length)
end
section
open Go.RowKit
open Go.Lib (decDigits nDigits decDigits_length)
end
section
open Go.RowKit
open Go.Lib (decDigits nDigits decDigits_length)
end
section
open Go.RowKit
open Go.Lib (decDigits nDigits decDigits_length)
end
section
open Go.RowKit
open Go.Lib (decDigits nDigits decDigits_length)
set_option maxHeartbeats 1000000 in
theorem wrap_err (x : ByteArray) (n : Int) (E : Int) (hE : firstE [ckL x.data.toList,ckWidth n] = E) (h : E ≠ 0) (w : World) : Calls Tryz.prog 55 #[.string x,.int .i64 n] w fun e w'=>e = .returned (errT E)/\Below w.heap.size w w':=by
  have Cc:=Lib.hid (check_any x w)
  have Cw:=Lib.hid (fun w=>checkWidth_any n w)
  have C8:=Lib.hid (fun (W : World)=>firstErr_new (ckL x.data.toList) (ckWidth n) W)
  obtain ⟨a,ha⟩ : ∃ a,ckL x.data.toList = a:=⟨_,rfl⟩
  obtain ⟨b,hb⟩ : ∃ b,ckWidth n = b:=⟨_,rfl⟩
  rw [ha] at Cc
  rw [hb] at Cw
  rw [ha,hb] at hE
  rw [ha,hb,hE] at C8
  have td : (E != 0) = true:=by simpa using h
  clear hE h ha hb
  go_enter Tryz.func55,Tryz.ntmps55
  go_wp2_with (first
    | (go_at_call 12;(with_reducible refine (Cc.out).mono ?_);rintro e w1 ⟨rfl,hb1⟩;have HB1:=Lib.hid hb1;clear hb1)
    | (go_at_call 123;(with_reducible refine (Cw.out _).mono ?_);rintro e w2 ⟨rfl,rfl⟩)
    | (go_at_call 88;(with_reducible refine (C8.out _).mono ?_);rintro e w3 ⟨rfl,hb3⟩;have HB3:=Lib.hid hb3;clear hb3))
  go_ret2
  have h1:=HB1.out.alloc HB1.out.size (.cells #[.int .i64 a,.int .i64 b] 24)
  exact ⟨rfl,h1.trans (HB3.out.mono h1.size)⟩
end
section
open Go.RowKit
open Go.Lib (decDigits nDigits decDigits_length)
theorem z140 (w : World) : (zeroValue 140).run Tryz.prog w = .ok (.agg #[.int .i64 0,.bool false,.nilFunc]) w:=by kernel_rfl
set_option maxHeartbeats 1000000 in
set_option maxRecDepth 100000 in
theorem bits_op (o n : Int) (ho : ∀ i : Nat,i < 10->(i : Int) ≠ o) (s1 s2 : ByteArray) (w : World) :
    Calls Tryz.prog 57 #[.int .i64 o,.int .i64 n,.string s1,.string s2] w fun e w'=>e = .returned (errT 8)/\Below w.heap.size w w':=by
  have HB0:=Lib.hid (show Below w.heap.size w (w.alloc (.cells #[.int .i64 n] 3)) from (Below.refl _ _).alloc (Nat.le_refl _) _)
  have HO:=Lib.hid ho;clear ho
  go_enter Tryz.func57,Tryz.ntmps57
  go_wp2_with (first
    | (go_at_call 127;(with_reducible refine (operations_any _).mono ?_);rintro e w1 ⟨b,rfl,hm,hb1⟩;have HB1:=Lib.hid (HB0.out.trans (hb1.mono HB0.out.size));have hlk:=run_lookupI_out (P:=Tryz.prog) 142 3 140 opV o 10 b _ w1 Tryz.underlying142 Tryz.underlying3 z140 HO.out hm;clear hb1 hm))
  go_ret2
  exact ⟨rfl,HB1.out.alloc HB1.out.size _⟩
set_option maxHeartbeats 1000000 in
set_option maxRecDepth 100000 in
theorem bits_width (i : Nat) (hi10 : i < 10) (n : Int) (hn : ckWidth n ≠ 0) (s1 s2 : ByteArray) (w : World) :
    Calls Tryz.prog 57 #[.int .i64 i,.int .i64 n,.string s1,.string s2] w fun e w'=>e = .returned (errT (ckWidth n))/\Below w.heap.size w w':=by
  have HB0:=Lib.hid (show Below w.heap.size w (w.alloc (.cells #[.int .i64 n] 3)) from (Below.refl _ _).alloc (Nat.le_refl _) _)
  have HC0:=Lib.hid (show (w.alloc (.cells #[.int .i64 n] 3)).cell? ⟨w.heap.size,0,none⟩ = some (.int .i64 n) by simp only [World.cell?,heap_alloc_at];rfl)
  have cw:=fun w=>checkWidth_any n w
  obtain ⟨E,hE⟩ : ∃ E,ckWidth n = E:=⟨_,rfl⟩
  rw [hE] at hn cw ⊢
  have td : (E != 0) = true:=by simpa using hn
  have Cw:=Lib.hid cw
  clear hn hE cw
  go_enter Tryz.func57,Tryz.ntmps57
  go_wp2_with (first
    | (go_at_call 127;(with_reducible refine (operations_any _).mono ?_);rintro e w1 ⟨b,rfl,hm,hb1⟩;have HB1:=Lib.hid (HB0.out.trans (hb1.mono HB0.out.size));have hck:=cell_keep (cell_keep HC0.out hb1) ((Below.refl w1.heap.size w1).alloc (Nat.le_refl _) (.cells #[.int .i64 (i : Int),.bool (opB i),.func (.func (168 + i)) #[] #[]] 140));have hlk:=run_lookupI_in (P:=Tryz.prog) 142 3 140 opV i 10 b w1 Tryz.underlying142 Tryz.underlying3 hi10 hm;unfold opV at hlk;clear hb1 hm)
    | (go_at_call 123;(with_reducible refine (Cw.out _).mono ?_);rintro e w2 ⟨rfl,rfl⟩))
  go_ret2
  exact ⟨rfl,HB1.out.alloc HB1.out.size _⟩
theorem firstOf_two2 (k : Nat) (hk : k <= 64) (s1 s2 : ByteArray) (p : Addr) (g : Nat) (w : World) (hgl : Gl w) (hg : g < w.heap.size) (hp : w.cell? p = some (.int .i64 k))
    (hx0 : w.cell? ⟨g,0,none⟩ = some (.string s1)) (hx1 : w.cell? ⟨g,1,none⟩ = some (.string s2)) :
    Calls Tryz.prog 85 #[.func (.func 128) #[] #[.pointer (some p)],.slice (some ⟨g,0,none⟩) 2 2] w fun e w'=>e = .returned (.int .i64 (firstE [cbV s1.data.toList k,cbV s2.data.toList k]))/\Below w.heap.size w w' :=
  firstOf_bound 128 cb_enter p (fun s=>cbV s.data.toList k) g 1 2 [s1,s2] w rfl (by omega) hg (fun i hi=>by
    match i,hi with
    | 0,_=>exact hx0
    | 1,_=>exact hx1) (fun x _ w3 hb=>checkBitsBox_any x k hk p w3 (hgl.keep hb) (cell_keep hp hb))
set_option maxHeartbeats 1000000 in
set_option maxRecDepth 100000 in
theorem bits_operand (i : Nat) (hi10 : i < 10) (k : Nat) (hk1 : 1 <= k) (hk : k <= 64) (s1 s2 : ByteArray) (E : Int) (hE : firstE [cbV s1.data.toList k,cbV s2.data.toList k] = E) (hn : E ≠ 0) (w : World) (hg : Gl w) :
    Calls Tryz.prog 57 #[.int .i64 i,.int .i64 k,.string s1,.string s2] w fun e w'=>e = .returned (errT E)/\Below w.heap.size w w':=by
  have cw:=fun w=>checkWidth_any (k : Int) w
  rw [ckWidth_ok k hk1 hk] at cw
  have Cw:=Lib.hid cw
  have cf:=fun p g w a b c d e=>firstOf_two2 k hk s1 s2 p g w a b c d e
  rw [hE] at cf
  have Cf:=Lib.hid cf
  have HG:=Lib.hid hg
  have td : (E != 0) = true:=by simpa using hn
  clear cw cf hE hn hg
  go_enter Tryz.func57,Tryz.ntmps57
  go_wp2_with (first
    | (go_at_call 127;(with_reducible refine (operations_any _).mono ?_);rintro e w1 ⟨b,rfl,hm,hb1⟩;have F3:=Lib.hid (bits_w3 k s1 s2 (.int .i64 (i : Int)) (.bool (opB i)) (.func (.func (168 + i)) #[] #[]) hb1);have hck:=F3.out.2.2.2.2.2.1;have HG3:=Lib.hid (HG.out.keep F3.out.1);have hlk:=run_lookupI_in (P:=Tryz.prog) 142 3 140 opV i 10 b w1 Tryz.underlying142 Tryz.underlying3 hi10 hm;unfold opV at hlk;clear hb1 hm)
    | (go_at_call 123;(with_reducible refine (Cw.out _).mono ?_);rintro e w2 ⟨rfl,rfl⟩)
    | (go_at_call 85;(with_reducible refine (Cf.out ⟨w.heap.size,0,none⟩ (w1.heap.size + 1) _ HG3.out F3.out.2.2.1 F3.out.2.1 F3.out.2.2.2.1 F3.out.2.2.2.2.1).mono ?_);rintro e w4 ⟨rfl,hb4⟩;have HB4:=Lib.hid hb4;clear hb4))
  go_ret2
  exact ⟨rfl,F3.out.1.trans (HB4.out.mono F3.out.1.size)⟩
end
section
open Go.RowKit
open Go.Lib (decDigits nDigits decDigits_length)
theorem fold_ge : ∀ (l : List UInt8) (acc : Nat),acc <= l.foldl (fun v c=>v * 10 + (c.toNat - 48)) acc
  | [],_=>Nat.le_refl _
  | c :: r,acc=>by rw [List.foldl_cons];exact Nat.le_trans (by omega) (fold_ge r _)
end
section
open Go.RowKit
theorem parseM_dig2 : ∀ (l : List UInt8) (acc : Nat),acc < 18446744073709551616->(∀ c ∈ l,isDig c = true)->Lib.parseUintM (2 ^ 64 - 1) acc l = if l.foldl (fun v c=>v * 10 + (c.toNat - 48)) acc < 18446744073709551616 then .ok (l.foldl (fun v c=>v * 10 + (c.toNat - 48)) acc) else .range
  | [],acc,h,_=>by rw [List.foldl_nil,if_pos h];rfl
  | c :: r,acc,h,hd=>by
    have hc:=hd c (by simp)
    simp only [isDig,decide_eq_true_eq] at hc
    have hg:=fold_ge r (acc * 10 + (c.toNat - 48))
    rw [List.foldl_cons,Lib.parseUintM,if_pos hc]
    by_cases h1 : 1844674407370955162 <= acc
    · rw [if_pos h1,if_neg (by omega)]
    · rw [if_neg h1]
      by_cases h2 : 2 ^ 64 - 1 < acc * 10 + (c.toNat - 48)
      · rw [if_pos h2,if_neg (by omega)]
      · rw [if_neg h2]
        exact parseM_dig2 r _ (by omega) (fun x hx=>hd x (by simp [hx]))
theorem cbV_okz {x : ByteArray} {k : Nat} (hk : k <= 64) (h : Okz x) : cbV x.data.toList k = if vz x < 0 ∨ 2 ^ k <= vz x then 3 else 0:=by
  obtain ⟨h1,h2,h3,_⟩:=okz_parts h
  have hs:=vz_sign x
  have ha:=vz_abs x
  have hkp : 2 ^ k <= 18446744073709551616:=Nat.pow_le_pow_right (n:=2) (by omega) hk
  have hk1 : 1 <= 2 ^ k:=Nat.pow_pos (by omega)
  have hcast : (((2 ^ k : Nat) : Int)) = 2 ^ k:=by rw [Int.natCast_pow];rfl
  have hv : valL (noMinus x.data.toList) = intM x.data.toList:=rfl
  have hz:=zero_text h
  have h0 : ckL x.data.toList = 0:=h
  have htl : x.toList = x.data.toList:=toList_data' x
  rw [htl] at hz
  unfold cbV
  rw [if_pos h0]
  clear h0 htl
  generalize x.data.toList = l at *
  rcases noMinus_cases l with ⟨t,ht,hn⟩ | ⟨hh,hn⟩
  · have hp : Lib.parseUintB 64 l = .syntax:=by
      rw [ht]
      unfold Lib.parseUintB
      rw [if_neg (by simp),Lib.parseUintM,if_neg (by decide)]
    rw [hp]
    have hneg : vz x < 0:=by
      have hi : intS l = true:=by
        rw [ht] at hz
        have hne : vz x ≠ 0:=by
          intro e
          rw [decide_eq_true e] at hz
          simp at hz
        unfold intS
        rw [ht] at ha ⊢
        simp only [List.head?_cons,beq_self_eq_true,Bool.true_and,Bool.not_eq_true',decide_eq_false_iff_not]
        omega
      rw [hi] at hs
      exact of_decide_eq_true hs
    rw [if_pos (Or.inl hneg)]
  · rw [hn] at h1 h2 hv
    have hge : 0 <= vz x:=by
      have : intS l = false:=by unfold intS;rw [show (l.head? == some 45) = false by simpa using hh];rfl
      rw [this] at hs
      have:=of_decide_eq_false hs
      omega
    have hp : Lib.parseUintB 64 l = if valL l < 18446744073709551616 then .ok (valL l) else .range:=by
      unfold Lib.parseUintB
      rw [if_neg (by intro e;rw [e] at h1;simp at h1)]
      exact parseM_dig2 l 0 (by omega) h2
    rw [hp]
    by_cases hb : valL l < 18446744073709551616
    · rw [if_pos hb]
      by_cases hc : 2 ^ k - 1 < valL l
      · simp only []
        rw [if_pos hc,if_pos (Or.inr (by omega))]
      · simp only []
        rw [if_neg hc,if_neg (by omega)]
    · rw [if_neg hb]
      simp only []
      rw [if_pos (Or.inr (by omega))]
theorem vz_minus {x : ByteArray} (h : Okz x) {t : List UInt8} (ht : x.data.toList = 45 :: t) : vz x < 0:=by
  have hs:=vz_sign x
  have ha:=vz_abs x
  have hz:=zero_text h
  rw [toList_data' x] at hz
  have hi : intS x.data.toList = true:=by
    have hne : vz x ≠ 0:=by
      intro e
      rw [decide_eq_true e,ht] at hz
      simp at hz
    unfold intS
    rw [show (x.data.toList.head? == some 45) = true by rw [ht];rfl]
    simp only [Bool.true_and,Bool.not_eq_true',decide_eq_false_iff_not]
    omega
  rw [hi] at hs
  exact of_decide_eq_true hs
theorem vz_plus {x : ByteArray} (hh : x.data.toList.head? ≠ some 45) : 0 <= vz x:=by
  have hs:=vz_sign x
  have : intS x.data.toList = false:=by unfold intS;rw [show (x.data.toList.head? == some 45) = false by simpa using hh];rfl
  rw [this] at hs
  have:=of_decide_eq_false hs
  omega
theorem refCb_any (x : ByteArray) (k : Nat) (hk : k <= 64) (sx : x.size <= 300) (w : World) : Calls Tryz.prog 130 #[.string x,.int .i64 k] w fun e w'=>e = .returned (.int .i64 (cbV x.data.toList k))/\Below w.heap.size w w':=by
  by_cases h : ckL x.data.toList = 0
  · have o1 : Okz x:=h
    rw [cbV_okz hk o1]
    have hp0 : 0 < x.size:=by
      rcases Nat.eq_zero_or_pos x.size with h0 | h0
      · have hl : x.data.toList = []:=List.eq_nil_of_length_eq_zero (by simpa using h0)
        have:=(okz_parts h).1
        rw [hl] at this;exact absurd this (by decide)
      · exact h0
    obtain ⟨t,ht⟩:=at0 hp0
    have hlen : x.size = t.length + 1:=by have:=congrArg List.length ht;simpa using this
    by_cases h45 : x[0]'hp0 = 45
    · have hv:=vz_minus o1 (t:=t) (by rw [ht,h45])
      rw [if_pos (Or.inl hv)]
      exact refCb_minus x k sx h t.length hlen hp0 (by rw [h45];rfl) w
    · have hv:=vz_plus (x:=x) (by rw [ht];simpa using h45)
      have c:=refCb_plus x k hk sx o1 x.size _ rfl hp0 rfl (u8_ne (by omega) h45) w
      by_cases hb : 2 ^ k <= vz x
      · rw [if_pos (Or.inr hb)];rw [if_pos hb] at c;exact c
      · rw [if_neg (by omega)];rw [if_neg hb] at c;exact c
  · have : cbV x.data.toList k = ckL x.data.toList:=by unfold cbV;rw [if_neg h]
    rw [this]
    exact refCb_err x k sx h w
end
end Go.Proofs.YtpbegoflpfdajaaGreatDoor
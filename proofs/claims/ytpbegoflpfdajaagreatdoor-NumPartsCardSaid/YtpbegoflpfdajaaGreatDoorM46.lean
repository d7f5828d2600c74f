/- WHAT IS PROVED: contracts of functions of the numbers package and laws for them, used by the last text of this claim. CONDITIONS: stated at each theorem. -/
import Derived.Test.YtpbegoflpfdajaaGreatDoorM45
import Derived.Test.YtpbegoflpfdajaaGreatDoorM35
import Derived.Laws.EntriesVeiled
namespace Go.Proofs.YtpbegoflpfdajaaGreatDoor
section
open Go.RowKit
open Qd (lims)
theorem mags_unique {w : World} {v : Value} {n n' : Nat} (h : Mags w v n) (h' : Mags w v n') : n = n':=by
  obtain ⟨p,c,rfl,_,hx⟩:=Mg.parts h
  obtain ⟨p',c',he,_,hx'⟩:=Mg.parts h'
  injection he with e1 e2 e3
  subst e1
  have hl:=Qd.lsz_lt n;have hl':=Qd.lsz_lt n'
  rw [<- e2] at hl'
  refine Qd.eq_of_lims hl hl' fun i hi=>?_
  obtain ⟨g,rfl,_,hc⟩:=hx (by omega)
  obtain ⟨g',hg',_,hc'⟩:=hx' (by omega)
  injection hg' with hg'
  injection hg' with hg'
  subst hg'
  have a:=hc i hi
  have b:=hc' i (by omega)
  rw [a] at b
  injection b with b
  injection b with _ b
  omega
structure Cmn (w : World) (B g m n : Nat) (v2 v3 : Value) (W : World) : Prop where
  a0 : W.cell? ⟨B,0,none⟩ = some (.bool false)
  a1 : W.cell? ⟨B,1,none⟩ = some v2
  b0 : W.cell? ⟨B + 1,0,none⟩ = some (.bool false)
  b1 : W.cell? ⟨B + 1,1,none⟩ = some v3
  r0 : W.cell? ⟨B + 1 + 1,0,none⟩ = some (.bool false)
  r1 : W.cell? ⟨B + 1 + 1,1,none⟩ = some (.slice none 0 0)
  f0 : W.frozen? ⟨B,0,none⟩ = false
  f1 : W.frozen? ⟨B,1,none⟩ = false
  f2 : W.frozen? ⟨B + 1,0,none⟩ = false
  f3 : W.frozen? ⟨B + 1,1,none⟩ = false
  f4 : W.frozen? ⟨B + 1 + 1,0,none⟩ = false
  f5 : W.frozen? ⟨B + 1 + 1,1,none⟩ = false
  m2 : Mags W v2 m
  m3 : Mags W v3 n
  gcd : Nat.gcd m n = g
  l2 : Qd.lsz m <= 5000
  l3 : Qd.lsz n <= 5000
  low : Below w.heap.size w W
  size : B + 1 + 1 < W.heap.size
theorem Cmn.keep {w W W' : World} {B g m n : Nat} {v2 v3 : Value} (h : Cmn w B g m n v2 v3 W) (hb : Below W.heap.size W W') : Cmn w B g m n v2 v3 W':=by
  obtain ⟨a0,a1,b0,b1,r0,r1,f0,f1,f2,f3,f4,f5,m2,m3,gcd,l2,l3,low,size⟩:=h
  exact { a0:=cell_kept a0 hb,a1:=cell_kept a1 hb,b0:=cell_kept b0 hb,b1:=cell_kept b1 hb,r0:=cell_kept r0 hb,r1:=cell_kept r1 hb,f0:=frozen_kept f0 hb (by simp;omega),f1:=frozen_kept f1 hb (by simp;omega),f2:=frozen_kept f2 hb (by simp;omega),f3:=frozen_kept f3 hb (by simp;omega),f4:=frozen_kept f4 hb (by simp;omega),f5:=frozen_kept f5 hb (by simp;omega),m2:=m2.keep hb,m3:=m3.keep hb,gcd:=gcd,l2:=l2,l3:=l3,low:=low.trans (hb.mono low.size),size:=by have:=hb.size;omega }
theorem Cmn.next {w W : World} {B g m n R : Nat} {v2 v3 u : Value} (h : Cmn w B g m n v2 v3 W) (hu : Mags W u R) (hR : R = m % n) (hB : w.heap.size <= B) : Cmn w B g n R v3 u ((((W.setCell ⟨B,0,none⟩ (.bool false)).setCell ⟨B,1,none⟩ v3).setCell ⟨B + 1,0,none⟩ (.bool false)).setCell ⟨B + 1,1,none⟩ u):=by
  obtain ⟨a0,a1,b0,b1,r0,r1,f0,f1,f2,f3,f4,f5,m2,m3,gcd,l2,l3,low,size⟩:=h
  have n1 : B ≠ B + 1:=by omega
  have n2 : B + 1 ≠ B:=by omega
  have n3 : B + 1 + 1 ≠ B:=by omega
  have n4 : B + 1 + 1 ≠ B + 1:=by omega
  have e0 : (W.setCell ⟨B,0,none⟩ (.bool false)).cell? ⟨B,0,none⟩ = some (.bool false):=World.cell?_setCell_same _ _ _ a0
  have e1 : (W.setCell ⟨B,0,none⟩ (.bool false)).cell? ⟨B,1,none⟩ = some v2:=set_cell a1 (by omega)
  have g0 : ((W.setCell ⟨B,0,none⟩ (.bool false)).setCell ⟨B,1,none⟩ v3).cell? ⟨B + 1,0,none⟩ = some (.bool false):=cell_set (cell_set b0 n2) n2
  have g1 : ((W.setCell ⟨B,0,none⟩ (.bool false)).setCell ⟨B,1,none⟩ v3).cell? ⟨B + 1,1,none⟩ = some v3:=cell_set (cell_set b1 n2) n2
  exact {
    a0:=cell_set (cell_set (set_cell e0 (by omega)) n1) n1
    a1:=cell_set (cell_set (World.cell?_setCell_same _ _ _ e1) n1) n1
    b0:=set_cell (World.cell?_setCell_same _ _ _ g0) (by omega)
    b1:=World.cell?_setCell_same _ _ _ (set_cell g1 (by omega))
    r0:=cell_set (cell_set (cell_set (cell_set r0 n3) n3) n4) n4
    r1:=cell_set (cell_set (cell_set (cell_set r1 n3) n3) n4) n4
    f0:=set_frozen (set_frozen (set_frozen (set_frozen f0)))
    f1:=set_frozen (set_frozen (set_frozen (set_frozen f1)))
    f2:=set_frozen (set_frozen (set_frozen (set_frozen f2)))
    f3:=set_frozen (set_frozen (set_frozen (set_frozen f3)))
    f4:=set_frozen (set_frozen (set_frozen (set_frozen f4)))
    f5:=set_frozen (set_frozen (set_frozen (set_frozen f5)))
    m2:=Mg.set2 (Mg.set2 m3 a0 _ _) g0 _ _
    m3:=Mg.set2 (Mg.set2 hu a0 _ _) g0 _ _
    gcd:=by rw [hR,<- gcd,Nat.gcd_comm n (m % n),<- Nat.gcd_rec,Nat.gcd_comm]
    l2:=l3
    l3:=Nat.le_trans (Qd.lsz_mono (by rw [hR];exact Nat.mod_le m n)) l2
    low:=(((low.setCell (p:=⟨B,0,none⟩) hB _).setCell (p:=⟨B,1,none⟩) hB _).setCell (p:=⟨B + 1,0,none⟩) (by simp;omega) _).setCell (p:=⟨B + 1,1,none⟩) (by simp;omega) _
    size:=by simpa using size }
theorem big_nat_inv {w : World} {u : Value} {k : Nat} (h : BigAt w u (k : Int)) : ∃ s,u = .agg #[.bool false,s]/\Mags w s k:=by
  obtain ⟨s,rfl,hs⟩:=h
  rw [abs_up] at hs
  exact ⟨s,by rw [decide_eq_false (show ¬ ((k : Int) < 0) by omega)],hs⟩
noncomputable def mgOf (W : World) (b : Nat) : Nat:=Classical.epsilon fun n=>∃ v,W.cell? ⟨b,1,none⟩ = some v/\Mags W v n
theorem mgOf_eq {W : World} {b n : Nat} {v : Value} (h : W.cell? ⟨b,1,none⟩ = some v) (hm : Mags W v n) : mgOf W b = n:=by
  have : ∃ k,∃ v,W.cell? ⟨b,1,none⟩ = some v/\Mags W v k:=⟨n,v,h,hm⟩
  obtain ⟨v',h',hm'⟩:=Classical.epsilon_spec this
  rw [h] at h'
  injection h' with h'
  subst h'
  exact mags_unique hm' hm
set_option maxHeartbeats 4000000 in
set_option maxRecDepth 100000 in
theorem refCommon_any (x y : Value) (z1 z2 : Int) (h1 : Qd.lsz z1.natAbs <= 5000) (h2 : Qd.lsz z2.natAbs <= 5000) (w : World) (hx : BigAt w x z1) (hy : BigAt w y z2) :
    Calls Tryz.prog 97 #[x,y] w fun e w'=>∃ v,e = .returned v/\BigAt w' v (Nat.gcd z1.natAbs z2.natAbs : Nat)/\Below w.heap.size w w':=by
  obtain ⟨s,rfl,hs⟩:=hx
  obtain ⟨t,rfl,ht⟩:=hy
  obtain ⟨m,hm⟩ : ∃ m,z1.natAbs = m:=⟨_,rfl⟩
  obtain ⟨n,hn⟩ : ∃ n,z2.natAbs = n:=⟨_,rfl⟩
  obtain ⟨b1,hb1⟩ : ∃ b,decide (z1 < 0) = b:=⟨_,rfl⟩
  obtain ⟨b2,hb2⟩ : ∃ b,decide (z2 < 0) = b:=⟨_,rfl⟩
  rw [hm] at hs h1 ⊢
  rw [hn] at ht h2 ⊢
  rw [hb1,hb2]
  obtain ⟨p,c1,rfl,_,_⟩:=hs.parts
  obtain ⟨q,d1,rfl,_,_⟩:=ht.parts
  clear hm hn hb1 hb2
  have hS:=Lib.hid hs;have hT:=Lib.hid ht;have H1:=Lib.hid h1;have H2:=Lib.hid h2
  clear hs ht h1 h2
  go_enter Tryz.func97,Tryz.ntmps97
  go_wp2
  go_loopw [] (fun wr=>∃ v2 v3 m' n',Cmn w w.heap.size (Nat.gcd m n) m' n' v2 v3 wr) (fun wr=>mgOf wr (w.heap.size + 1))
  case atStart =>
    obtain ⟨⟨k00,k01⟩,⟨k10,k11⟩,⟨k20,k21⟩,kf0,kf1⟩:=cells3 w (.bool false) (.slice p (Qd.lsz m) c1) (.bool false) (.slice q (Qd.lsz n) d1) (.bool false) (.slice none 0 0) 74 74 74
    exact ⟨_,_,m,n,{ a0:=k00,a1:=k01,b0:=k10,b1:=k11,r0:=k20,r1:=k21,f0:=by go_simp,f1:=by go_simp,f2:=by go_simp,f3:=by go_simp,f4:=kf0,f5:=kf1,m2:=hS.out.keep (by repeat' first | exact Below.refl _ _ | assumption | refine Below.setCell ?_ ?_ _ | refine Below.alloc ?_ ?_ _ | refine below_drewN ?_ | refine Below.drew ?_ | (simp;done) | (simp;omega)),m3:=hT.out.keep (by repeat' first | exact Below.refl _ _ | assumption | refine Below.setCell ?_ ?_ _ | refine Below.alloc ?_ ?_ _ | refine below_drewN ?_ | refine Below.drew ?_ | (simp;done) | (simp;omega)),gcd:=rfl,l2:=H1.out,l3:=H2.out,low:=(by repeat' first | exact Below.refl _ _ | assumption | refine Below.setCell ?_ ?_ _ | refine Below.alloc ?_ ?_ _ | refine below_drewN ?_ | refine Below.drew ?_ | (simp;done) | (simp;omega)),size:=by simp }⟩
  case round =>
    obtain ⟨v2,v3,m',n',hC⟩:=hrel
    have HC:=Lib.hid hC
    obtain ⟨a0,a1,b0,b1,r0,r1,f0,f1,f2,f3,f4,f5,m2,m3,gcd,l2,l3,low,size⟩:=hC
    obtain ⟨p2,c2,rfl,_,_⟩:=m2.parts
    obtain ⟨p3,c3,rfl,_,_⟩:=m3.parts
    by_cases h0 : n' = 0
    · have hk : Qd.lsz n' = 0:=by rw [h0];exact Qd.lsz_zero
      have d0 : decide ((0 : Int) < ((Qd.lsz n' : Nat) : Int)) = false:=by simp;omega
      have d0' : decide (0 < Qd.lsz n') = false:=by simp;omega
      have hg : m' = Nat.gcd m n:=by rw [<- gcd,h0,Nat.gcd_zero_right]
      have HG:=Lib.hid hg
      clear gcd hg l2 l3 h0 hk
      go_wp2
      refine ret74 Tryz.results97 _ rfl (.bool false) (.slice p2 (Qd.lsz m') c2) (by go_simp) (by go_simp) rfl ?_
      refine ⟨_,rfl,big_nat ?_,(by repeat' first | exact Below.refl _ _ | assumption | refine Below.setCell ?_ ?_ _ | refine Below.alloc ?_ ?_ _ | refine below_drewN ?_ | refine Below.drew ?_ | (simp;done) | (simp;omega))⟩
      rw [<- HG.out]
      exact Mg.set2 m2 r0 _ _
    · have d0 : decide ((0 : Int) < ((Qd.lsz n' : Nat) : Int)) = true:=by
        have : Qd.lsz n' ≠ 0:=fun e=>h0 (Qd.lsz_eq_zero.1 e)
        simp;omega
      have d0' : decide (0 < Qd.lsz n') = true:=by simpa using d0
      have CO:=Lib.hid (refOver_any _ _ (m' : Int) (n' : Int) (by omega) (by rw [abs_up];omega) (by rw [abs_up];omega) wr (big_nat m2) (big_nat m3))
      have hmeas : mgOf wr (w.heap.size + 1) = n':=mgOf_eq b1 m3
      rw [hmeas]
      have HH:=Lib.hid h0
      clear l2 l3 gcd h0 hmeas
      have hB4:=fun (w4 : World) (hb4 : Below wr.heap.size wr w4)=>HC.out.keep hb4
      rw [<- (euclid_pp m' n' (by have:=HH.out;omega)).2] at CO
      have hn0 : n' ≠ 0:=HH.out
      have HB4:=Lib.hid hB4
      have HN0:=Lib.hid hn0
      clear hB4 hn0 HH
      go_wp2_with (go_at_call 91;(with_reducible refine (CO.out).mono ?_);rintro e w4 ⟨v,u,rfl,hv,hu,hb4⟩;obtain ⟨b5,p5,k5,c5,rfl⟩:=hv.shape;obtain ⟨u6,rfl,hu6⟩:=big_nat_inv hu;obtain ⟨p6,c6,rfl,_,_⟩:=hu6.parts;have hC4:=HB4.out _ hb4;have q0:=hC4.a0;have q1:=hC4.a1;have q2:=hC4.b0;have q3:=hC4.b1;have q4:=hC4.r0;have q5:=hC4.r1;have g0:=hC4.f0;have g1:=hC4.f1;have g2:=hC4.f2;have g3:=hC4.f3;have hs4:=hC4.size;have HC4:=Lib.hid hC4;have HU:=Lib.hid hu6;clear hC4 hu6 hu hv hb4)
      have hb5 : Below w4.heap.size w4 ((w4.alloc (.cells #[.bool b5,.slice p5 k5 c5] 74)).alloc (.cells #[.bool false,.slice p6 (Qd.lsz (m' % n')) c6] 74)):=(by repeat' first | exact Below.refl _ _ | assumption | refine Below.setCell ?_ ?_ _ | refine Below.alloc ?_ ?_ _ | refine below_drewN ?_ | refine Below.drew ?_ | (simp;done) | (simp;omega))
      have hC5:=HC4.out.keep hb5
      have hU5:=HU.out.keep hb5
      have t60 : ((w4.alloc (.cells #[.bool b5,.slice p5 k5 c5] 74)).alloc (.cells #[.bool false,.slice p6 (Qd.lsz (m' % n')) c6] 74)).cell? ⟨w4.heap.size + 1,0,none⟩ = some (.bool false):=by go_simp
      have t61 : ((w4.alloc (.cells #[.bool b5,.slice p5 k5 c5] 74)).alloc (.cells #[.bool false,.slice p6 (Qd.lsz (m' % n')) c6] 74)).cell? ⟨w4.heap.size + 1,1,none⟩ = some (.slice p6 (Qd.lsz (m' % n')) c6):=by go_simp
      generalize ((w4.alloc (Obj.cells #[.bool b5,.slice p5 k5 c5] 74)).alloc (Obj.cells #[.bool false,.slice p6 (Qd.lsz (m' % n')) c6] 74)) = W5 at *
      have HC5:=Lib.hid hC5;have HU5:=Lib.hid hU5
      have hlt : m' % n' < n':=Nat.mod_lt _ (by have:=HN0.out;omega)
      obtain ⟨y0,y1,y2,y3,y4,y5,x0,x1,x2,x3,x4,x5,_,_,_,_,_,_,ysz⟩:=hC5
      have N1 : w4.heap.size + 1 ≠ w.heap.size:=by omega
      have N2 : w4.heap.size + 1 ≠ w.heap.size + 1:=by omega
      clear q0 q1 q2 q3 q4 q5 g0 g1 g2 g3 hb5 a0 a1 b0 b1 r0 r1 f0 f1 f2 f3 f4 f5 m2 m3 low hU5
      go_region
      all_goals go_wp2_with fail
      all_goals go_roundw
      all_goals have hN:=HC5.out.next HU5.out rfl (Nat.le_refl _)
      case rel=>exact ⟨_,_,n',m' % n',hN.keep (by repeat' first | exact Below.refl _ _ | assumption | refine Below.setCell ?_ ?_ _ | refine Below.alloc ?_ ?_ _ | refine below_drewN ?_ | refine Below.drew ?_ | (simp;done) | (simp;omega))⟩
      case measure =>
        have hN2:=hN.keep (Below.drew (Below.refl _ _))
        rw [mgOf_eq hN2.b1 hN2.m3]
        exact hlt
end
section
open Go.RowKit
open Qd (lims)
theorem lsz_gcd (a b : Int) {k : Nat} (h1 : Qd.lsz a.natAbs <= k) (h2 : Qd.lsz b.natAbs <= k) : Qd.lsz (((Nat.gcd a.natAbs b.natAbs : Nat) : Int)).natAbs <= k:=by
  rw [abs_up]
  by_cases h0 : a.natAbs = 0
  · rw [h0,Nat.gcd_zero_left];exact h2
  · exact Nat.le_trans (Qd.lsz_mono (Nat.gcd_le_left _ (by omega))) h1
end
section
open Go.RowKit
open Qd (lims)
theorem three_cells (w : World) (a b c : Int) (t : TypeId) (i : Nat) (h : i < [a,b,c].length) : (w.alloc (.cells #[.int .i64 a,.int .i64 b,.int .i64 c] t)).cell? ⟨w.heap.size,i,none⟩ = some (.int .i64 [a,b,c][i]):=by
  match i,h with
  | 0,_=>simp
  | 1,_=>simp
  | 2,_=>simp
theorem zero_text {y : ByteArray} (h : Okz y) : (y.toList == [48]) = decide (vz y = 0):=by
  rw [toList_data']
  by_cases h0 : vz y = 0
  · have:=tz_vz h
    rw [h0] at this
    rw [decide_eq_true h0,<- this,tz_pos (Int.le_refl 0),show (0 : Int).natAbs = 0 from rfl,Lib.decDigits_one (by omega)]
    rfl
  · rw [decide_eq_false h0]
    rw [beq_eq_false_iff_ne]
    intro e
    exact h0 (by unfold vz intM intS;rw [e];rfl)
theorem lsz_fit {z : Int} (h : z.natAbs < 10 ^ 120) : Qd.lsz z.natAbs <= 30:=(Qd.lsz_le_iff 30 _).2 (by rw [bb_ten4];exact h)
def ckD2 (x y : ByteArray) : Int:=firstE [ckL x.data.toList,ckL y.data.toList,if y.toList == [48] then 30 else 0]
end
section
open Go.RowKit
open Qd (lims)
structure Pws (w : World) (H : Nat) (P X : Int) (b7 : Bool) (s7 : Value) (b8 : Bool) (s8 : Value) (W : World) : Prop where
  c0 : W.cell? ⟨H,0,none⟩ = some (.bool b7)
  c1 : W.cell? ⟨H,1,none⟩ = some s7
  d0 : W.cell? ⟨H + 1,0,none⟩ = some (.bool b8)
  d1 : W.cell? ⟨H + 1,1,none⟩ = some s8
  f0 : W.frozen? ⟨H,0,none⟩ = false
  f1 : W.frozen? ⟨H,1,none⟩ = false
  g7 : BigAt W (.agg #[.bool b7,s7]) P
  g8 : BigAt W (.agg #[.bool b8,s8]) X
  low : Below w.heap.size w W
  above : w.heap.size <= H
  size : H + 1 < W.heap.size
theorem Pws.keep {w W W' : World} {H : Nat} {P X : Int} {b7 b8 : Bool} {s7 s8 : Value} (h : Pws w H P X b7 s7 b8 s8 W) (hb : Below W.heap.size W W') : Pws w H P X b7 s7 b8 s8 W':=by
  obtain ⟨c0,c1,d0,d1,f0,f1,g7,g8,low,above,size⟩:=h
  exact { c0:=cell_kept c0 hb,c1:=cell_kept c1 hb,d0:=cell_kept d0 hb,d1:=cell_kept d1 hb,f0:=frozen_kept f0 hb (by simp;omega),f1:=frozen_kept f1 hb (by simp;omega),g7:=g7.keep hb,g8:=g8.keep hb,low:=low.trans (hb.mono low.size),above:=above,size:=by have:=hb.size;omega }
theorem Pws.next {w W : World} {H : Nat} {P Q X : Int} {b7 b8 b9 : Bool} {s7 s8 s9 : Value} (h : Pws w H P X b7 s7 b8 s8 W) (hq : BigAt W (.agg #[.bool b9,s9]) Q) : Pws w H Q X b9 s9 b8 s8 ((W.setCell ⟨H,0,none⟩ (.bool b9)).setCell ⟨H,1,none⟩ s9):=by
  obtain ⟨c0,c1,d0,d1,f0,f1,g7,g8,low,above,size⟩:=h
  have n1 : H + 1 ≠ H:=by omega
  exact {
    c0:=set_cell (World.cell?_setCell_same _ _ _ c0) (by omega)
    c1:=World.cell?_setCell_same _ _ _ (set_cell c1 (by omega))
    d0:=cell_set (cell_set d0 n1) n1
    d1:=cell_set (cell_set d1 n1) n1
    f0:=set_frozen (set_frozen f0)
    f1:=set_frozen (set_frozen f1)
    g7:=hq.set2 c0 _ _
    g8:=g8.set2 c0 _ _
    low:=(low.setCell (p:=⟨H,0,none⟩) above _).setCell (p:=⟨H,1,none⟩) above _
    above:=above
    size:=by simpa using size }
end
section
open Go.RowKit
open Qd (lims)
end
section
open Go.RowKit
open Qd (lims)
structure Pwr (w : World) (R H : Nat) (P : Int) (b7 : Bool) (s7 : Value) (W : World) : Prop where
  c0 : W.cell? ⟨H,0,none⟩ = some (.bool b7)
  c1 : W.cell? ⟨H,1,none⟩ = some s7
  f0 : W.frozen? ⟨H,0,none⟩ = false
  f1 : W.frozen? ⟨H,1,none⟩ = false
  r0 : W.cell? ⟨R,0,none⟩ = some (.bool false)
  r1 : W.cell? ⟨R,1,none⟩ = some (.slice none 0 0)
  q0 : W.frozen? ⟨R,0,none⟩ = false
  q1 : W.frozen? ⟨R,1,none⟩ = false
  g7 : BigAt W (.agg #[.bool b7,s7]) P
  low : Below w.heap.size w W
  from' : w.heap.size <= R
  above : R < H
  size : H < W.heap.size
theorem Pwr.keep {w W W' : World} {R H : Nat} {P : Int} {b7 : Bool} {s7 : Value} (h : Pwr w R H P b7 s7 W) (hb : Below W.heap.size W W') : Pwr w R H P b7 s7 W':=by
  obtain ⟨c0,c1,f0,f1,r0,r1,q0,q1,g7,low,fr,above,size⟩:=h
  exact { c0:=cell_kept c0 hb,c1:=cell_kept c1 hb,f0:=frozen_kept f0 hb (by simp;omega),f1:=frozen_kept f1 hb (by simp;omega),r0:=cell_kept r0 hb,r1:=cell_kept r1 hb,q0:=frozen_kept q0 hb (by simp;omega),q1:=frozen_kept q1 hb (by simp;omega),g7:=g7.keep hb,low:=low.trans (hb.mono low.size),from':=fr,above:=above,size:=by have:=hb.size;omega }
theorem Pwr.next {w W : World} {R H : Nat} {P Q : Int} {b7 b9 : Bool} {s7 s9 : Value} (h : Pwr w R H P b7 s7 W) (hq : BigAt W (.agg #[.bool b9,s9]) Q) : Pwr w R H Q b9 s9 ((W.setCell ⟨H,0,none⟩ (.bool b9)).setCell ⟨H,1,none⟩ s9):=by
  obtain ⟨c0,c1,f0,f1,r0,r1,q0,q1,g7,low,fr,above,size⟩:=h
  have n1 : R ≠ H:=by omega
  exact {
    c0:=set_cell (World.cell?_setCell_same _ _ _ c0) (by omega)
    c1:=World.cell?_setCell_same _ _ _ (set_cell c1 (by omega))
    f0:=set_frozen (set_frozen f0)
    f1:=set_frozen (set_frozen f1)
    r0:=cell_set (cell_set r0 n1) n1
    r1:=cell_set (cell_set r1 n1) n1
    q0:=set_frozen (set_frozen q0)
    q1:=set_frozen (set_frozen q1)
    g7:=hq.set2 c0 _ _
    low:=(low.setCell (p:=⟨H,0,none⟩) (by simp;omega) _).setCell (p:=⟨H,1,none⟩) (by simp;omega) _
    from':=fr
    above:=above
    size:=by simpa using size }
end
section
open Go.RowKit
open Qd (lims)
end
section
open Go.RowKit
open Qd (lims)
end
section
open Go.RowKit
open Go.Lib (decDigits nDigits decDigits_length)
end
section
open Go.RowKit
open Go.Lib (decDigits nDigits decDigits_length)
end
section
open Go.RowKit
open Go.Lib (decDigits nDigits decDigits_length)
end
section
open Go.RowKit
open Go.Lib (decDigits nDigits decDigits_length)
end
section
open Go.RowKit
open Go.Lib (decDigits nDigits decDigits_length)
end
section
open Go.RowKit
open Go.Lib (decDigits nDigits decDigits_length)
end
end Go.Proofs.YtpbegoflpfdajaaGreatDoor
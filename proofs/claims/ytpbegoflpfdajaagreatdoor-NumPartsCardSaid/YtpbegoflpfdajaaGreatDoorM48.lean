/- WHAT IS PROVED: contracts of functions of the numbers package and laws for them, used by the last text of this claim. CONDITIONS: stated at each theorem. -/
import Derived.Test.YtpbegoflpfdajaaGreatDoorM47
namespace Go.Proofs.YtpbegoflpfdajaaGreatDoor
section
open Go.RowKit
open Qd (lims)
theorem i117 : (Tryz.prog.info? 117).map (·.size) = some 4:=by kernel_rfl
theorem range_four {w : World} {b : Nat} {x y u v : Value} (h0 : w.cell? ⟨b,0,none⟩ = some x) (h1 : w.cell? ⟨b,1,none⟩ = some y) (h2 : w.cell? ⟨b,2,none⟩ = some u) (h3 : w.cell? ⟨b,3,none⟩ = some v) : w.rangeAt b 0 [x,y,u,v]:=fun j r hr=>by
  match j with
  | 0=>simp at hr;subst hr;exact h0
  | 1=>simp at hr;subst hr;exact h1
  | 2=>simp at hr;subst hr;exact h2
  | 3=>simp at hr;subst hr;exact h3
  | j + 4=>simp at hr
theorem ret117 {fn : Func} {R : Ending->World->Prop} {a : Act} {w : World} {tm : Nat} (hres : fn.results = #[.cell tm 117]) (b : Nat) (ht : a.tmps.getD tm undef = .pointer (some ⟨b,0,none⟩)) (x y u v : Value)
    (h0 : w.cell? ⟨b,0,none⟩ = some x) (h1 : w.cell? ⟨b,1,none⟩ = some y) (h2 : w.cell? ⟨b,2,none⟩ = some u) (h3 : w.cell? ⟨b,3,none⟩ = some v) (hdf : a.defers = []) (hR : R (.returned (.agg #[x,y,u,v])) w) : bodyPost Tryz.prog fn R .ret a w :=
  ret_cell hres b 0 ht [x,y,u,v] Tryz.underlying117 rfl i117 (range_four h0 h1 h2 h3) hdf hR
structure Fk (W : World) (b : Nat) (x y u v : Value) : Prop where
  c0 : W.cell? ⟨b,0,none⟩ = some x
  c1 : W.cell? ⟨b,1,none⟩ = some y
  c2 : W.cell? ⟨b,2,none⟩ = some u
  c3 : W.cell? ⟨b,3,none⟩ = some v
  f0 : W.frozen? ⟨b,0,none⟩ = false
  f1 : W.frozen? ⟨b,1,none⟩ = false
  f2 : W.frozen? ⟨b,2,none⟩ = false
  f3 : W.frozen? ⟨b,3,none⟩ = false
  lt : b < W.heap.size
theorem Fk.keep {W W' : World} {b : Nat} {x y u v : Value} (h : Fk W b x y u v) (hb : Below W.heap.size W W') : Fk W' b x y u v :=
  { c0:=cell_kept h.c0 hb,c1:=cell_kept h.c1 hb,c2:=cell_kept h.c2 hb,c3:=cell_kept h.c3 hb,f0:=frozen_kept h.f0 hb h.lt,f1:=frozen_kept h.f1 hb h.lt,f2:=frozen_kept h.f2 hb h.lt,f3:=frozen_kept h.f3 hb h.lt,lt:=Nat.lt_of_lt_of_le h.lt hb.size }
theorem Fk.other {W : World} {b c : Nat} {x y u v : Value} (h : Fk W c x y u v) (hne : c ≠ b) (u0 u1 : Value) : Fk ((W.setCell ⟨b,0,none⟩ u0).setCell ⟨b,1,none⟩ u1) c x y u v :=
  { c0:=cell_set (cell_set h.c0 hne) hne,c1:=cell_set (cell_set h.c1 hne) hne,c2:=cell_set (cell_set h.c2 hne) hne,c3:=cell_set (cell_set h.c3 hne) hne,f0:=set_frozen (set_frozen h.f0),f1:=set_frozen (set_frozen h.f1),f2:=set_frozen (set_frozen h.f2),f3:=set_frozen (set_frozen h.f3),lt:=by simpa using h.lt }
theorem Fk.set4 {W : World} {b : Nat} {x y u v : Value} (h : Fk W b x y u v) (x' y' u' v' : Value) : Fk ((((W.setCell ⟨b,0,none⟩ x').setCell ⟨b,1,none⟩ y').setCell ⟨b,2,none⟩ u').setCell ⟨b,3,none⟩ v') b x' y' u' v' :=
  { c0:=set_cell (set_cell (set_cell (World.cell?_setCell_same _ _ _ h.c0) (by omega)) (by omega)) (by omega),c1:=set_cell (set_cell (World.cell?_setCell_same _ _ _ (set_cell h.c1 (by omega))) (by omega)) (by omega),c2:=set_cell (World.cell?_setCell_same _ _ _ (set_cell (set_cell h.c2 (by omega)) (by omega))) (by omega),c3:=World.cell?_setCell_same _ _ _ (set_cell (set_cell (set_cell h.c3 (by omega)) (by omega)) (by omega)),f0:=set_frozen (set_frozen (set_frozen (set_frozen h.f0))),f1:=set_frozen (set_frozen (set_frozen (set_frozen h.f1))),f2:=set_frozen (set_frozen (set_frozen (set_frozen h.f2))),f3:=set_frozen (set_frozen (set_frozen (set_frozen h.f3))),lt:=by simpa using h.lt }
theorem BigAt.set4 {W : World} {b : Nat} {x : Bool} {y u v : Value} {z : Value} {n : Int} (h : BigAt W z n) (hf : Fk W b (.bool x) y u v) (x' y' u' v' : Value) : BigAt ((((W.setCell ⟨b,0,none⟩ x').setCell ⟨b,1,none⟩ y').setCell ⟨b,2,none⟩ u').setCell ⟨b,3,none⟩ v') z n:=by
  obtain ⟨s,rfl,hs⟩:=h
  refine ⟨s,rfl,?_⟩
  obtain ⟨p,c,rfl,h0,h1⟩:=hs
  refine ⟨p,c,rfl,h0,fun hl=>?_⟩
  obtain ⟨g,rfl,hg,hx⟩:=h1 hl
  have hpos : 0 < (lims n.natAbs (Qd.lsz n.natAbs)).length:=List.length_pos_iff.2 hl
  have hne : g ≠ b:=by
    intro e;subst e
    have:=hx 0 hpos
    rw [hf.c0] at this
    injection this with this
    injection this
  exact ⟨g,rfl,by simpa using hg,fun i hi=>cell_set (cell_set (cell_set (cell_set (hx i hi) hne) hne) hne) hne⟩
theorem FrAt.set4 {W : World} {b : Nat} {x : Bool} {y u v : Value} {z : Value} {P Q : Int} (h : FrAt W z P Q) (hf : Fk W b (.bool x) y u v) (x' y' u' v' : Value) : FrAt ((((W.setCell ⟨b,0,none⟩ x').setCell ⟨b,1,none⟩ y').setCell ⟨b,2,none⟩ u').setCell ⟨b,3,none⟩ v') z P Q:=by
  obtain ⟨t,p,k,c,t',p',k',c',rfl,h1,h2⟩:=h
  exact ⟨t,p,k,c,t',p',k',c',rfl,h1.set4 hf _ _ _ _,h2.set4 hf _ _ _ _⟩
theorem low_fit {P Q : Int} {k : Nat} (h1 : Qd.lsz P.natAbs <= k) (h2 : Qd.lsz Q.natAbs <= k) : Qd.lsz (lowP P Q).natAbs <= k/\Qd.lsz (lowQ P Q).natAbs <= k:=by
  constructor
  · refine Nat.le_trans (Qd.lsz_mono (Int.natAbs_ediv_le_natAbs _ _)) ?_
    split
    · rw [natAbs_neg'];exact h1
    · exact h1
  · exact Nat.le_trans (Qd.lsz_mono (Int.natAbs_ediv_le_natAbs _ _)) (by rw [abs_up];exact h2)
theorem Bk.two {W : World} {b1 b2 : Nat} {z1 z2 y1 y2 : Int} {t1 t2 t3 t4 : Bool} {s1 s2 u1 u2 : Value} (h1 : Bk W b1 z1 t1 s1) (h2 : Bk W b2 z2 t2 s2) (hne : b1 ≠ b2) (k1 : decide (y1 < 0) = t3) (k2 : decide (y2 < 0) = t4) (m1 : Mags W u1 y1.natAbs) (m2 : Mags W u2 y2.natAbs) :
    Bk ((((W.setCell ⟨b1,0,none⟩ (.bool t3)).setCell ⟨b1,1,none⟩ u1).setCell ⟨b2,0,none⟩ (.bool t4)).setCell ⟨b2,1,none⟩ u2) b1 y1 t3 u1/\Bk ((((W.setCell ⟨b1,0,none⟩ (.bool t3)).setCell ⟨b1,1,none⟩ u1).setCell ⟨b2,0,none⟩ (.bool t4)).setCell ⟨b2,1,none⟩ u2) b2 y2 t4 u2:=by
  have g1:=h1.set k1 m1
  have g2:=h2.other h1 (Ne.symm hne) (.bool t3) u1
  exact ⟨g1.other g2 hne _ _,g2.set k2 (Mg.set2 m2 h1.c0 _ _)⟩
theorem Bk.new (w : World) {z : Int} {t : Bool} {s : Value} (ht : decide (z < 0) = t) (hm : Mags w s z.natAbs) : Bk (w.alloc (.cells #[.bool t,s] 74)) w.heap.size z t s :=
  { c0:=by go_simp,c1:=by go_simp,f0:=by go_simp,f1:=by go_simp,ht:=ht,m:=hm.keep (by repeat' first | exact Below.refl _ _ | assumption | refine Below.setCell ?_ ?_ _ | refine Below.alloc ?_ ?_ _ | refine below_drewN ?_ | refine Below.drew ?_ | (simp;done) | (simp;omega)),lt:=by simp }
theorem low_eq (P Q : Int) (h : Q < 0) : (-P).natAbs = P.natAbs/\-Q = (Q.natAbs : Int):=⟨by omega,by omega⟩
set_option maxHeartbeats 8000000 in
set_option maxRecDepth 100000 in
theorem refLowest_any (x y : Value) (P Q : Int) (h0 : Q ≠ 0) (h1 : Qd.lsz P.natAbs <= 1000) (h2 : Qd.lsz Q.natAbs <= 1000) (w : World) (hx : BigAt w x P) (hy : BigAt w y Q) :
    Calls Tryz.prog 118 #[x,y] w fun e w'=>∃ v,e = .returned v/\FrAt w' v (lowP P Q) (lowQ P Q)/\Below w.heap.size w w':=by
  obtain ⟨t1,p1,c1,rfl,ht1,hm1⟩:=hx.opened
  obtain ⟨t2,p2,c2,rfl,ht2,hm2⟩:=hy.opened
  have C1:=Lib.hid (fun W v (g : BigAt W v P)=>refNegative_any v P (by omega) W g)
  have C2:=Lib.hid (fun W v (g : BigAt W v Q)=>refNegative_any v Q (by omega) W g)
  have L1:=Lib.hid h1;have L2:=Lib.hid h2;have Q0:=Lib.hid h0
  obtain ⟨lP,hlP⟩ : ∃ z,lowP P Q = z:=⟨_,rfl⟩
  obtain ⟨lQ,hlQ⟩ : ∃ z,lowQ P Q = z:=⟨_,rfl⟩
  rw [hlP,hlQ]
  have HR : Hid (lP = (if Q < 0 then -P else P) / (Nat.gcd P.natAbs Q.natAbs : Nat)/\lQ = (Q.natAbs : Int) / (Nat.gcd P.natAbs Q.natAbs : Nat)):=Lib.hid ⟨hlP.symm,hlQ.symm⟩
  clear hlP hlQ
  obtain ⟨n1,hn1⟩ : ∃ n,Qd.lsz P.natAbs = n:=⟨_,rfl⟩
  obtain ⟨n2,hn2⟩ : ∃ n,Qd.lsz Q.natAbs = n:=⟨_,rfl⟩
  rw [hn1] at hm1 hx ⊢
  rw [hn2] at hm2 hy ⊢
  have hl0 : Below w.heap.size w (((w.alloc (.cells #[.bool t1,.slice p1 n1 c1] 74)).alloc (.cells #[.bool t2,.slice p2 n2 c2] 74)).alloc (.cells #[.bool false,.slice none 0 0,.bool false,.slice none 0 0] 117)):=(by repeat' first | exact Below.refl _ _ | assumption | refine Below.setCell ?_ ?_ _ | refine Below.alloc ?_ ?_ _ | refine below_drewN ?_ | refine Below.drew ?_ | (simp;done) | (simp;omega))
  have A0 : Bk (((w.alloc (.cells #[.bool t1,.slice p1 n1 c1] 74)).alloc (.cells #[.bool t2,.slice p2 n2 c2] 74)).alloc (.cells #[.bool false,.slice none 0 0,.bool false,.slice none 0 0] 117)) w.heap.size P t1 (.slice p1 n1 c1):={ c0:=by go_simp,c1:=by go_simp,f0:=by go_simp,f1:=by go_simp,ht:=ht1,m:=hm1.keep hl0,lt:=by simp;omega }
  have B0 : Bk (((w.alloc (.cells #[.bool t1,.slice p1 n1 c1] 74)).alloc (.cells #[.bool t2,.slice p2 n2 c2] 74)).alloc (.cells #[.bool false,.slice none 0 0,.bool false,.slice none 0 0] 117)) (w.heap.size + 1) Q t2 (.slice p2 n2 c2):={ c0:=by go_simp,c1:=by go_simp,f0:=by go_simp,f1:=by go_simp,ht:=ht2,m:=hm2.keep hl0,lt:=by simp }
  have F0 : Fk (((w.alloc (.cells #[.bool t1,.slice p1 n1 c1] 74)).alloc (.cells #[.bool t2,.slice p2 n2 c2] 74)).alloc (.cells #[.bool false,.slice none 0 0,.bool false,.slice none 0 0] 117)) (w.heap.size + 1 + 1) (.bool false) (.slice none 0 0) (.bool false) (.slice none 0 0):={ c0:=by go_simp,c1:=by go_simp,c2:=by go_simp,c3:=by go_simp,f0:=by go_simp,f1:=by go_simp,f2:=by go_simp,f3:=by go_simp,lt:=by simp }
  clear hx hy hm1 hm2 hn1 hn2 h0 h1 h2
  go_enter Tryz.func118,Tryz.ntmps118
  go_upto_region 1 with fail
  generalize (((w.alloc (.cells #[.bool t1,.slice p1 n1 c1] 74)).alloc (.cells #[.bool t2,.slice p2 n2 c2] 74)).alloc (.cells #[.bool false,.slice none 0 0,.bool false,.slice none 0 0] 117)) = W0 at *
  have a0:=A0.c0;have a1:=A0.c1;have b0:=B0.c0;have b1:=B0.c1
  have a2:=A0.f0;have a3:=A0.f1;have b2:=B0.f0;have b3:=B0.f1
  have hA:=Lib.hid A0;have hB:=Lib.hid B0;have hF:=Lib.hid F0;have hL:=Lib.hid hl0
  have hlt:=B0.lt
  clear A0 B0 F0 hl0
  have T1:=Lib.hid ht1;have T2:=Lib.hid ht2
  clear ht1 ht2
  go_upto_if 7 with fail
  go_cut [] (fun wx=>∃ t s t' s',Bk wx w.heap.size (if Q < 0 then -P else P) t s/\Bk wx (w.heap.size + 1) (Q.natAbs : Int) t' s'/\Fk wx (w.heap.size + 1 + 1) (.bool false) (.slice none 0 0) (.bool false) (.slice none 0 0)/\Below w.heap.size w wx)
  case first =>
    cases t2
    · go_wp2_with fail
      go_meet
      have hq : ¬ Q < 0:=of_decide_eq_false T2.out
      have hA2 : Bk W0 w.heap.size (if Q < 0 then -P else P) t1 (.slice p1 n1 c1):=by rw [if_neg hq];exact hA.out
      have hB2 : Bk W0 (w.heap.size + 1) (Q.natAbs : Int) false (.slice p2 n2 c2):=by rw [show (Q.natAbs : Int) = Q by omega];exact hB.out
      exact ⟨_,_,_,_,hA2,hB2,hF.out,hL.out⟩
    · go_upto_region 2 with fail
      go_region_with (first
        | (go_at_call 76;(with_reducible refine (C1.out _ _ (BigAt.keep hA.out.big (by repeat' first | exact Below.refl _ _ | assumption | refine Below.setCell ?_ ?_ _ | refine Below.alloc ?_ ?_ _ | refine below_drewN ?_ | refine Below.drew ?_ | (simp;done) | (simp;omega)))).mono ?_);rintro e w5 ⟨v5,rfl,hg5,hb5⟩;obtain ⟨t5,p5,c5,rfl,ht5,hm5⟩:=hg5.opened;rw [natAbs_neg'] at hm5;have hb5q:=Below.trans (a:=W0) (B:=W0.heap.size) (by repeat' first | exact Below.refl _ _ | assumption | refine Below.setCell ?_ ?_ _ | refine Below.alloc ?_ ?_ _ | refine below_drewN ?_ | refine Below.drew ?_ | (simp;done) | (simp;omega)) (Below.mono hb5 (Below.size (B:=W0.heap.size) (w:=W0) (by repeat' first | exact Below.refl _ _ | assumption | refine Below.setCell ?_ ?_ _ | refine Below.alloc ?_ ?_ _ | refine below_drewN ?_ | refine Below.drew ?_ | (simp;done) | (simp;omega))));have j0:=cell_kept a0 hb5q;have j1:=cell_kept a1 hb5q;have j2:=cell_kept b0 hb5q;have j3:=cell_kept b1 hb5q;have j4:=frozen_kept a2 hb5q (by simp;omega);have j5:=frozen_kept a3 hb5q (by simp;omega);have j6:=frozen_kept b2 hb5q (by simp;omega);have j7:=frozen_kept b3 hb5q (by simp;omega))
        | (go_at_call 76;(with_reducible refine (C2.out _ _ (BigAt.keep hB.out.big (by repeat' first | exact Below.refl _ _ | assumption | refine Below.setCell ?_ ?_ _ | refine Below.alloc ?_ ?_ _ | refine below_drewN ?_ | refine Below.drew ?_ | (simp;done) | (simp;omega)))).mono ?_);rintro e w6 ⟨v6,rfl,hg6,hb6⟩;obtain ⟨t6,p6,c6,rfl,ht6,hm6⟩:=hg6.opened;rw [natAbs_neg'] at hm6;have hb6q:=Below.trans hb5q (Below.trans (a:=w5) (B:=W0.heap.size) (by repeat' first | exact Below.refl _ _ | assumption | refine Below.setCell ?_ ?_ _ | refine Below.alloc ?_ ?_ _ | refine below_drewN ?_ | refine Below.drew ?_ | (simp;done) | (simp;omega)) (Below.mono hb6 (by have:=hb5q.size;simp;omega)));have i0:=cell_kept a0 hb6q;have i1:=cell_kept a1 hb6q;have i2:=cell_kept b0 hb6q;have i3:=cell_kept b1 hb6q;have i4:=frozen_kept a2 hb6q (by simp;omega);have i5:=frozen_kept a3 hb6q (by simp;omega);have i6:=frozen_kept b2 hb6q (by simp;omega);have i7:=frozen_kept b3 hb6q (by simp;omega);have hm5':=hm5.keep (Below.trans (a:=w5) (B:=w5.heap.size) (by repeat' first | exact Below.refl _ _ | assumption | refine Below.setCell ?_ ?_ _ | refine Below.alloc ?_ ?_ _ | refine below_drewN ?_ | refine Below.drew ?_ | (simp;done) | (simp;omega)) (Below.mono hb6 (by simp)))))
      all_goals
        go_wp2_with fail
        go_meet
        have hq : Q < 0:=of_decide_eq_true T2.out
        have hT:=Bk.two (hA.out.keep hb6q) (hB.out.keep hb6q) (by omega) ht5 ht6 (by rw [natAbs_neg'];exact hm5') (by rw [natAbs_neg'];exact hm6)
        rw [show -P = (if Q < 0 then -P else P) from (if_pos hq).symm,(low_eq P Q hq).2] at hT
        have hF2:=((hF.out.keep hb6q).other (b:=w.heap.size) (by omega) (.bool t5) (.slice p5 (Qd.lsz P.natAbs) c5)).other (b:=w.heap.size + 1) (by omega) (.bool t6) (.slice p6 (Qd.lsz Q.natAbs) c6)
        exact ⟨_,_,_,_,hT.1,hT.2,hF2,((((hL.out.trans (hb6q.mono hL.out.size)).setCell (p:=⟨w.heap.size,0,none⟩) (Nat.le_refl _) _).setCell (p:=⟨w.heap.size,1,none⟩) (Nat.le_refl _) _).setCell (p:=⟨w.heap.size + 1,0,none⟩) (Nat.le_succ _) _).setCell (p:=⟨w.heap.size + 1,1,none⟩) (Nat.le_succ _) _⟩
  case rest =>
  obtain ⟨t,s,t',s',A0,B0,F0,hl0⟩:=hcut
  have hg : Nat.gcd (if Q < 0 then -P else P).natAbs (Q.natAbs : Int).natAbs = Nat.gcd P.natAbs Q.natAbs:=by
    rw [abs_up]
    split
    · rw [natAbs_neg']
    · rfl
  have hpn : (if Q < 0 then -P else P).natAbs = P.natAbs:=by
    split
    · rw [natAbs_neg']
    · rfl
  have LQ : Qd.lsz (Q.natAbs : Int).natAbs <= 1000:=by rw [abs_up];exact L2.out
  have LP : Qd.lsz (if Q < 0 then -P else P).natAbs <= 1000:=by rw [hpn];exact L1.out
  have lg : Qd.lsz (((Nat.gcd P.natAbs Q.natAbs : Nat) : Int)).natAbs <= 1000:=lsz_gcd P Q L1.out L2.out
  have gn : Nat.gcd P.natAbs Q.natAbs ≠ 0:=fun e=>Q0.out (by have:=Nat.eq_zero_of_gcd_eq_zero_right e;omega)
  clear hA hB hF hL T1 T2 L1 L2 Q0 C1 C2 hlt hpn a0 a1 a2 a3 b0 b1 b2 b3
  obtain ⟨P',hP'⟩ : ∃ z,(if Q < 0 then -P else P) = z:=⟨_,rfl⟩
  obtain ⟨Q',hQ'⟩ : ∃ z : Int,(Q.natAbs : Int) = z:=⟨_,rfl⟩
  rw [hP'] at A0 hg HR LP
  rw [hQ'] at B0 hg HR LQ
  clear hP' hQ'
  have C97:=Lib.hid (fun W v1 v2 (g1 : BigAt W v1 P') (g2 : BigAt W v2 Q')=>by have:=refCommon_any v1 v2 P' Q' (by omega) (by omega) W g1 g2;rwa [hg] at this)
  obtain ⟨G,hG⟩ : ∃ g,Nat.gcd P.natAbs Q.natAbs = g:=⟨_,rfl⟩
  rw [hG] at C97 HR lg gn
  clear hg hG
  have C1:=Lib.hid (fun W v1 v2 (g1 : BigAt W v1 P') (g2 : BigAt W v2 (G : Nat))=>refOver_any v1 v2 P' G (by omega) (by omega) (by omega) W g1 g2)
  have C2:=Lib.hid (fun W v1 v2 (g1 : BigAt W v1 Q') (g2 : BigAt W v2 (G : Nat))=>refOver_any v1 v2 Q' G (by omega) (by omega) (by omega) W g1 g2)
  clear LP LQ lg gn
  rw [<- HR.out.1] at C1
  rw [<- HR.out.2] at C2
  clear HR
  obtain ⟨p1,c1,rfl,_,_⟩:=A0.m.parts
  obtain ⟨p2,c2,rfl,_,_⟩:=B0.m.parts
  obtain ⟨n1,hn1⟩ : ∃ n,Qd.lsz P'.natAbs = n:=⟨_,rfl⟩
  obtain ⟨n2,hn2⟩ : ∃ n,Qd.lsz Q'.natAbs = n:=⟨_,rfl⟩
  rw [hn1] at A0
  rw [hn2] at B0
  clear hn1 hn2
  have a0:=A0.c0;have a1:=A0.c1;have b0:=B0.c0;have b1:=B0.c1
  have hA:=Lib.hid A0;have hB:=Lib.hid B0;have hF:=Lib.hid F0;have hL:=Lib.hid hl0
  clear A0 B0 F0 hl0
  go_upto_region 4 with (first | (go_at_call 97;(with_reducible refine (C97.out _ _ _ hA.out.big hB.out.big).mono ?_);rintro e w6 ⟨v6,rfl,hg6,hb6⟩;obtain ⟨s6,rfl,hm6⟩:=big_nat_inv hg6;obtain ⟨p6,c6,rfl,_,_⟩:=hm6.parts))
  have hD0 : Bk (w6.alloc (.cells #[.bool false,.slice p6 (Qd.lsz G) c6] 74)) w6.heap.size (G : Int) false (.slice p6 (Qd.lsz G) c6):=Bk.new w6 (by simp) (by rw [abs_up];exact hm6)
  have hb6a : Below wc.heap.size wc (w6.alloc (.cells #[.bool false,.slice p6 (Qd.lsz G) c6] 74)):=hb6.alloc hb6.size _
  have hA0:=hA.out.keep hb6a;have hB0:=hB.out.keep hb6a;have hF0:=hF.out.keep hb6a
  have hL0:=hL.out.trans (hb6a.mono hL.out.size)
  have hne : w.heap.size + 1 + 1 < w6.heap.size:=Nat.lt_of_lt_of_le hF.out.lt hb6.size
  clear hA hB hF hL a0 a1 b0 b1 hg6 hm6 hb6 hb6a C97
  obtain ⟨D,hD⟩ : ∃ d,w6.heap.size = d:=⟨_,rfl⟩
  rw [hD] at hD0 hne
  simp only [hD]
  clear hD
  generalize w6.alloc (.cells #[.bool false,.slice p6 (Qd.lsz G) c6] 74) = W6 at *
  obtain ⟨n6,hn6⟩ : ∃ n,Qd.lsz G = n:=⟨_,rfl⟩
  rw [hn6] at hD0
  simp only [hn6]
  clear hn6
  have a0:=hA0.c0;have a1:=hA0.c1;have d0:=hD0.c0;have d1:=hD0.c1;have a2:=hA0.f0;have a3:=hA0.f1
  have hA:=Lib.hid hA0;have hB:=Lib.hid hB0;have hF:=Lib.hid hF0;have hL:=Lib.hid hL0;have hD:=Lib.hid hD0
  have hlt:=hA0.lt
  clear hA0 hB0 hF0 hL0 hD0
  go_upto_region 5 with (first | (go_at_call 91;(with_reducible refine (C1.out _ _ _ hA.out.big hD.out.big).mono ?_);rintro e w7 ⟨v7,r7,rfl,hg7,hgr7,hb7⟩;obtain ⟨t7,p7,c7,rfl,ht7,hm7⟩:=hg7.opened;obtain ⟨t8,p8,k8,c8,rfl⟩:=hgr7.shape;have j0:=cell_kept a0 hb7;have j1:=cell_kept a1 hb7;have j4:=frozen_kept a2 hb7 (by simp;omega);have j5:=frozen_kept a3 hb7 (by simp;omega)))
  have A7:=(hA.out.keep hb7).set ht7 hm7
  have B7:=(hB.out.keep hb7).other (hA.out.keep hb7) (by omega) (.bool t7) (.slice p7 (Qd.lsz lP.natAbs) c7)
  have D7:=(hD.out.keep hb7).other (hA.out.keep hb7) (by omega) (.bool t7) (.slice p7 (Qd.lsz lP.natAbs) c7)
  have F7:=(hF.out.keep hb7).other (b:=w.heap.size) (by omega) (.bool t7) (.slice p7 (Qd.lsz lP.natAbs) c7)
  have L7:=((hL.out.trans (hb7.mono hL.out.size)).setCell (p:=⟨w.heap.size,0,none⟩) (Nat.le_refl _) (.bool t7)).setCell (p:=⟨w.heap.size,1,none⟩) (Nat.le_refl _) (.slice p7 (Qd.lsz lP.natAbs) c7)
  clear hA hB hF hL hD a0 a1 a2 a3 d0 d1 j0 j1 j4 j5 hb7 hg7 hgr7 hm7 ht7 C1 hlt
  generalize (w7.setCell ⟨w.heap.size,0,none⟩ (.bool t7)).setCell ⟨w.heap.size,1,none⟩ (.slice p7 (Qd.lsz lP.natAbs) c7) = W7 at *
  have b0:=B7.c0;have b1:=B7.c1;have d0:=D7.c0;have d1:=D7.c1;have b2:=B7.f0;have b3:=B7.f1
  have hA:=Lib.hid A7;have hB:=Lib.hid B7;have hF:=Lib.hid F7;have hL:=Lib.hid L7;have hD:=Lib.hid D7
  have hlt:=B7.lt
  clear A7 B7 F7 L7 D7
  go_upto_region 6 with (first | (go_at_call 91;(with_reducible refine (C2.out _ _ _ hB.out.big hD.out.big).mono ?_);rintro e w9 ⟨v9,r9,rfl,hg9,hgr9,hb9⟩;obtain ⟨t9,p9,c9,rfl,ht9,hm9⟩:=hg9.opened;obtain ⟨t10,p10,k10,c10,rfl⟩:=hgr9.shape;have j0:=cell_kept b0 hb9;have j1:=cell_kept b1 hb9;have j4:=frozen_kept b2 hb9 (by simp;omega);have j5:=frozen_kept b3 hb9 (by simp;omega)))
  have B9:=(hB.out.keep hb9).set ht9 hm9
  have A9:=(hA.out.keep hb9).other (hB.out.keep hb9) (by omega) (.bool t9) (.slice p9 (Qd.lsz lQ.natAbs) c9)
  have F9:=(hF.out.keep hb9).other (b:=w.heap.size + 1) (by omega) (.bool t9) (.slice p9 (Qd.lsz lQ.natAbs) c9)
  have L9:=((hL.out.trans (hb9.mono hL.out.size)).setCell (p:=⟨w.heap.size + 1,0,none⟩) (Nat.le_succ _) (.bool t9)).setCell (p:=⟨w.heap.size + 1,1,none⟩) (Nat.le_succ _) (.slice p9 (Qd.lsz lQ.natAbs) c9)
  clear hA hB hF hL hD b0 b1 b2 b3 d0 d1 j0 j1 j4 j5 hb9 hg9 hgr9 hm9 ht9 C2 hlt
  generalize (w9.setCell ⟨w.heap.size + 1,0,none⟩ (.bool t9)).setCell ⟨w.heap.size + 1,1,none⟩ (.slice p9 (Qd.lsz lQ.natAbs) c9) = W9 at *
  have a0:=A9.c0;have a1:=A9.c1;have b0:=B9.c0;have b1:=B9.c1
  have f0:=F9.c0;have f1:=F9.c1;have f2:=F9.c2;have f3:=F9.c3;have g0:=F9.f0;have g1:=F9.f1;have g2:=F9.f2;have g3:=F9.f3
  have hA:=Lib.hid A9;have hB:=Lib.hid B9;have hF:=Lib.hid F9;have hL:=Lib.hid L9
  clear A9 B9 F9 L9
  go_wp2_with fail
  have F10:=hF.out.set4 (.bool t7) (.slice p7 (Qd.lsz lP.natAbs) c7) (.bool t9) (.slice p9 (Qd.lsz lQ.natAbs) c9)
  refine ret117 Tryz.results118 _ rfl _ _ _ _ F10.c0 F10.c1 F10.c2 F10.c3 rfl ?_
  exact ⟨_,rfl,⟨t7,p7,_,c7,t9,p9,_,c9,rfl,hA.out.big.set4 hF.out _ _ _ _,hB.out.big.set4 hF.out _ _ _ _⟩,(((hL.out.setCell (p:=⟨w.heap.size + 1 + 1,0,none⟩) (by simp;omega) _).setCell (p:=⟨w.heap.size + 1 + 1,1,none⟩) (by simp;omega) _).setCell (p:=⟨w.heap.size + 1 + 1,2,none⟩) (by simp;omega) _).setCell (p:=⟨w.heap.size + 1 + 1,3,none⟩) (by simp;omega) _⟩
end
section
open Go.RowKit
open Qd (lims)
theorem fitsV_val (n : Nat) : fitsV n = if n < 10 ^ 120 then 0 else 4:=by
  by_cases h : n < 10 ^ 120
  · rw [if_pos h]
    unfold fitsV
    rw [if_neg]
    unfold digN
    by_cases h0 : n = 0
    · rw [if_pos h0];omega
    · rw [if_neg h0]
      have:=nD_fit h
      omega
  · rw [if_neg h];exact (fitsV_big h).2
theorem range_cells4 (w : World) (x y u v : Value) (t : TypeId) : (w.alloc (.cells #[x,y,u,v] t)).cell? ⟨w.heap.size,0,none⟩ = some x/\(w.alloc (.cells #[x,y,u,v] t)).cell? ⟨w.heap.size,1,none⟩ = some y/\(w.alloc (.cells #[x,y,u,v] t)).cell? ⟨w.heap.size,2,none⟩ = some u/\(w.alloc (.cells #[x,y,u,v] t)).cell? ⟨w.heap.size,3,none⟩ = some v:=by
  refine ⟨?_,?_,?_,?_⟩ <;> go_simp
theorem resI_parts (z : Int) : ∃ s : ByteArray,resI z = .tuple #[.string s,.int .i64 (fitsV z.natAbs)]/\s.size <= 200/\(fitsV z.natAbs = 0->s = ⟨(sgText z.natAbs (decide (z < 0))).toArray⟩):=by
  unfold resI
  rw [fitsV_val]
  by_cases h : z.natAbs < 10 ^ 120
  · rw [if_pos h,if_pos h]
    refine ⟨tz z,rfl,?_,fun _=>rfl⟩
    have:=okz_tz h
    have h2:=ckL_short _ this
    rw [show (tz z).size = (tz z).data.toList.length by simp]
    omega
  · rw [if_neg h,if_neg h]
    exact ⟨⟨#[]⟩,rfl,by decide,fun e=>by omega⟩
set_option maxHeartbeats 4000000 in
set_option maxRecDepth 100000 in
theorem refWriteReal_any (v : Value) (P Q : Int) (h1 : Qd.lsz P.natAbs <= 10000) (h2 : Qd.lsz Q.natAbs <= 10000) (w : World) (h : FrAt w v P Q) :
    Calls Tryz.prog 101 #[v] w fun e w'=>e = .returned (resF P.natAbs (decide (P < 0)) Q.natAbs (decide (Q < 0)))/\Below w.heap.size w w':=by
  obtain ⟨t,p,k,c,t',p',k',c',rfl,g1,g2⟩:=h
  have C1:=Lib.hid (fun W (g : BigAt W (.agg #[.bool t,.slice p k c]) P)=>refResult_any _ P h1 W g)
  have C2:=Lib.hid (fun W (g : BigAt W (.agg #[.bool t',.slice p' k' c']) Q)=>refResult_any _ Q h2 W g)
  have G1:=Lib.hid g1;have G2:=Lib.hid g2
  obtain ⟨s1,e1,b1,f1⟩:=resI_parts P
  obtain ⟨s2,e2,b2,f2⟩:=resI_parts Q
  rw [e1] at C1
  rw [e2] at C2
  unfold resF fitF
  obtain ⟨E1,hE1⟩ : ∃ E,fitsV P.natAbs = E:=⟨_,rfl⟩
  obtain ⟨E2,hE2⟩ : ∃ E,fitsV Q.natAbs = E:=⟨_,rfl⟩
  rw [hE1] at C1 f1
  rw [hE2] at C2 f2
  rw [hE1,hE2]
  obtain ⟨E,hE⟩ : ∃ E,firstE [E1,E2] = E:=⟨_,rfl⟩
  have hc:=range_cells4 w (.bool t) (.slice p k c) (.bool t') (.slice p' k' c') 117
  by_cases h0 : E = 0
  · have h12:=firstE_two (hE.trans h0)
    have ht:=fr_text s1 s2 _ _ (f1 h12.1).symm (f2 h12.2).symm
    have HT:=Lib.hid ht
    rw [hE,if_pos h0]
    have hs1 : s1.size <= 200:=b1
    have hs2 : s2.size <= 200:=b2
    subst h0
    obtain ⟨R,hR⟩ : ∃ r : ByteArray,(⟨(frText P.natAbs (decide (P < 0)) Q.natAbs (decide (Q < 0))).toArray⟩ : ByteArray) = r:=⟨_,rfl⟩
    rw [hR]
    have HR:=Lib.hid hR
    clear e1 e2 hE1 hE2 f1 f2 g1 g2 h12 ht hR h1 h2
    go_enter Tryz.func101,Tryz.ntmps101
    go_wp2_with (first
      | (go_at_call 75;(with_reducible refine (C1.out _ (G1.out.keep (by repeat' first | exact Below.refl _ _ | assumption | refine Below.setCell ?_ ?_ _ | refine Below.alloc ?_ ?_ _ | refine below_drewN ?_ | refine Below.drew ?_ | (simp;done) | (simp;omega)))).mono ?_);rintro e w1 ⟨rfl,hb1⟩;have hl1 : Below w.heap.size w w1:=Below.trans (B:=w.heap.size) (by repeat' first | exact Below.refl _ _ | assumption | refine Below.setCell ?_ ?_ _ | refine Below.alloc ?_ ?_ _ | refine below_drewN ?_ | refine Below.drew ?_ | (simp;done) | (simp;omega)) (Below.mono hb1 (by simp;done));have a2:=cell_kept hc.2.2.1 hb1;have a3:=cell_kept hc.2.2.2 hb1;have hs1:=hl1.size)
      | (go_at_call 75;(with_reducible refine (C2.out _ (G2.out.keep (by repeat' first | exact Below.refl _ _ | assumption | refine Below.setCell ?_ ?_ _ | refine Below.alloc ?_ ?_ _ | refine below_drewN ?_ | refine Below.drew ?_ | (simp;done) | (simp;omega)))).mono ?_);rintro e w2 ⟨rfl,hb2⟩;have hl2 : Below w.heap.size w w2:=hl1.trans (Below.trans (B:=w.heap.size) (by repeat' first | exact Below.refl _ _ | assumption | refine Below.setCell ?_ ?_ _ | refine Below.alloc ?_ ?_ _ | refine below_drewN ?_ | refine Below.drew ?_ | (simp;done) | (simp;omega)) (Below.mono hb2 hs1));have hs2:=hl2.size)
      | (go_at_call 79;(with_reducible refine (refFirst_any _ 2 2 [E1,E2] rfl (by omega) _ (pair_cells _ E1 E2 3)).mono ?_);rintro e wc ⟨rfl,hw⟩;subst wc;rw [hE]))
    go_ret2
    exact ⟨by rw [<- HR.out,HT.out];rfl,(by repeat' first | exact Below.refl _ _ | assumption | refine Below.setCell ?_ ?_ _ | refine Below.alloc ?_ ?_ _ | refine below_drewN ?_ | refine Below.drew ?_ | (simp;done) | (simp;omega))⟩
  · rw [hE,if_neg h0]
    have d0 : (E != 0) = true:=by simpa using h0
    clear e1 e2 hE1 hE2 f1 f2 g1 g2 h1 h2 h0
    go_enter Tryz.func101,Tryz.ntmps101
    go_wp2_with (first
      | (go_at_call 75;(with_reducible refine (C1.out _ (G1.out.keep (by repeat' first | exact Below.refl _ _ | assumption | refine Below.setCell ?_ ?_ _ | refine Below.alloc ?_ ?_ _ | refine below_drewN ?_ | refine Below.drew ?_ | (simp;done) | (simp;omega)))).mono ?_);rintro e w1 ⟨rfl,hb1⟩;have hl1 : Below w.heap.size w w1:=Below.trans (B:=w.heap.size) (by repeat' first | exact Below.refl _ _ | assumption | refine Below.setCell ?_ ?_ _ | refine Below.alloc ?_ ?_ _ | refine below_drewN ?_ | refine Below.drew ?_ | (simp;done) | (simp;omega)) (Below.mono hb1 (by simp;done));have a2:=cell_kept hc.2.2.1 hb1;have a3:=cell_kept hc.2.2.2 hb1;have hs1:=hl1.size)
      | (go_at_call 75;(with_reducible refine (C2.out _ (G2.out.keep (by repeat' first | exact Below.refl _ _ | assumption | refine Below.setCell ?_ ?_ _ | refine Below.alloc ?_ ?_ _ | refine below_drewN ?_ | refine Below.drew ?_ | (simp;done) | (simp;omega)))).mono ?_);rintro e w2 ⟨rfl,hb2⟩;have hl2 : Below w.heap.size w w2:=hl1.trans (Below.trans (B:=w.heap.size) (by repeat' first | exact Below.refl _ _ | assumption | refine Below.setCell ?_ ?_ _ | refine Below.alloc ?_ ?_ _ | refine below_drewN ?_ | refine Below.drew ?_ | (simp;done) | (simp;omega)) (Below.mono hb2 hs1));have hs2:=hl2.size)
      | (go_at_call 79;(with_reducible refine (refFirst_any _ 2 2 [E1,E2] rfl (by omega) _ (pair_cells _ E1 E2 3)).mono ?_);rintro e wc ⟨rfl,hw⟩;subst wc;rw [hE]))
    go_ret2
    exact ⟨rfl,(by repeat' first | exact Below.refl _ _ | assumption | refine Below.setCell ?_ ?_ _ | refine Below.alloc ?_ ?_ _ | refine below_drewN ?_ | refine Below.drew ?_ | (simp;done) | (simp;omega))⟩
theorem okR_parts {x : ByteArray} (h : Okq x) : splB x.data.toList = true/\Okz ⟨(upT x.data.toList).toArray⟩/\Okz ⟨(loT x.data.toList).toArray⟩/\vz ⟨(upT x.data.toList).toArray⟩ = sgn (frN x.data.toList) (frS x.data.toList)/\vz ⟨(loT x.data.toList).toArray⟩ = frD x.data.toList:=by
  have k:=ckR_ok h
  have t1 : (⟨(upT x.data.toList).toArray⟩ : ByteArray).data.toList = upT x.data.toList:=by simp
  have t2 : (⟨(loT x.data.toList).toArray⟩ : ByteArray).data.toList = loT x.data.toList:=by simp
  refine ⟨?_,?_,?_,?_,?_⟩
  · unfold splB;rw [k.found,k.one];rfl
  · show ckL _ = 0;rw [t1];exact k.up
  · show ckL _ = 0;rw [t2];exact k.lo
  · unfold vz;rw [t1];rfl
  · unfold vz;rw [t2,k.pos,sgn_f];rfl
set_option maxHeartbeats 4000000 in
set_option maxRecDepth 100000 in
theorem refReadReal_any (x : ByteArray) (sx : x.size <= 300) (h : Okq x) (w : World) :
    Calls Tryz.prog 122 #[.string x] w fun e w'=>∃ v,e = .returned v/\FrAt w' v (sgn (frN x.data.toList) (frS x.data.toList)) (frD x.data.toList)/\Below w.heap.size w w':=by
  obtain ⟨hs,o1,o2,v1,v2⟩:=okR_parts h
  have S:=fun W=>refSplit_any x x.size rfl (by omega) W
  simp only [if_pos hs] at S
  have R1:=Lib.hid (fun W=>refReadZ _ o1 W)
  have R2:=Lib.hid (fun W=>refReadZ _ o2 W)
  rw [v1] at R1
  rw [v2] at R2
  obtain ⟨p,hp⟩ : ∃ p : ByteArray,⟨(upT x.data.toList).toArray⟩ = p:=⟨_,rfl⟩
  obtain ⟨q,hq⟩ : ∃ p : ByteArray,⟨(loT x.data.toList).toArray⟩ = p:=⟨_,rfl⟩
  rw [hp,hq] at S
  rw [hp] at R1
  rw [hq] at R2
  obtain ⟨P,hP⟩ : ∃ z,sgn (frN x.data.toList) (frS x.data.toList) = z:=⟨_,rfl⟩
  obtain ⟨Q,hQ⟩ : ∃ z : Int,(frD x.data.toList : Int) = z:=⟨_,rfl⟩
  rw [hP] at R1 ⊢
  rw [hQ] at R2 ⊢
  have S:=Lib.hid S
  have F0 : Fk (w.alloc (.cells #[.bool false,.slice none 0 0,.bool false,.slice none 0 0] 117)) w.heap.size (.bool false) (.slice none 0 0) (.bool false) (.slice none 0 0):={ c0:=by go_simp,c1:=by go_simp,c2:=by go_simp,c3:=by go_simp,f0:=by go_simp,f1:=by go_simp,f2:=by go_simp,f3:=by go_simp,lt:=by simp }
  have hl0 : Below w.heap.size w (w.alloc (.cells #[.bool false,.slice none 0 0,.bool false,.slice none 0 0] 117)):=(by repeat' first | exact Below.refl _ _ | assumption | refine Below.setCell ?_ ?_ _ | refine Below.alloc ?_ ?_ _ | refine below_drewN ?_ | refine Below.drew ?_ | (simp;done) | (simp;omega))
  clear hs o1 o2 v1 v2 hp hq hP hQ h sx
  go_enter Tryz.func122,Tryz.ntmps122
  go_upto_region 1 with fail
  generalize w.alloc (.cells #[.bool false,.slice none 0 0,.bool false,.slice none 0 0] 117) = W0 at *
  have hF:=Lib.hid F0;have hL:=Lib.hid hl0
  clear F0 hl0
  go_wp2_with (first
    | (go_at_call 116;(with_reducible refine (S.out _).mono ?_);rintro e w1 ⟨rfl,hb1⟩;have hF1:=Lib.hid (hF.out.keep hb1);have hl1:=hL.out.trans (hb1.mono hL.out.size))
    | (go_at_call 70;(with_reducible refine (R1.out _).mono ?_);rintro e w2 ⟨v2,rfl,hg2,hb2⟩;obtain ⟨t,p2,k2,c2,rfl⟩:=hg2.shape;have hF2:=Lib.hid (hF1.out.keep hb2);have hl2:=hl1.trans (hb2.mono hl1.size))
    | (go_at_call 70;(with_reducible refine (R2.out _).mono ?_);rintro e w3 ⟨v3,rfl,hg3,hb3⟩;obtain ⟨t',p3,k3,c3,rfl⟩:=hg3.shape;have hF3:=hF2.out.keep hb3;have hl3:=hl2.trans (hb3.mono hl2.size);have hg2':=hg2.keep hb3;have a0:=hF3.c0;have a1:=hF3.c1;have a2:=hF3.c2;have a3:=hF3.c3;have b0:=hF3.f0;have b1:=hF3.f1;have b2:=hF3.f2;have b3:=hF3.f3))
  have F10:=hF3.set4 (.bool t) (.slice p2 k2 c2) (.bool t') (.slice p3 k3 c3)
  refine ret117 Tryz.results122 _ rfl _ _ _ _ F10.c0 F10.c1 F10.c2 F10.c3 rfl ?_
  exact ⟨_,rfl,⟨t,p2,_,c2,t',p3,_,c3,rfl,hg2'.set4 hF3 _ _ _ _,hg3.set4 hF3 _ _ _ _⟩,(((hl3.setCell (p:=⟨w.heap.size,0,none⟩) (by simp) _).setCell (p:=⟨w.heap.size,1,none⟩) (by simp) _).setCell (p:=⟨w.heap.size,2,none⟩) (by simp) _).setCell (p:=⟨w.heap.size,3,none⟩) (by simp) _⟩
end
section
open Go.RowKit
open Qd (lims)
theorem keep_on {w w1 w2 : World} {v : Value} {z : Int} (h : BigAt w v z) (h1 : Below w.heap.size w w1) (hb : Below w1.heap.size w1 w2) : BigAt w2 v z:=(h.keep h1).keep hb
end
section
open Go.RowKit
open Qd (lims)
end
section
open Go.RowKit
open Qd (lims)
end
section
open Go.RowKit
open Qd (lims)
end
section
open Go.RowKit
open Qd (lims)
end
section
open Go.RowKit
open Qd (lims)
theorem sgn_lt (n : Nat) (s : Bool) : decide (sgn n s < 0) = (s && !decide (n = 0)):=by
  by_cases h : n = 0
  · subst h;cases s <;> rfl
  · rw [decide_eq_false h]
    cases s
    · exact decide_eq_false (by rw [sgn_f];omega)
    · exact decide_eq_true (by rw [sgn_t];omega)
theorem sgn_exact (g k : Nat) (s : Bool) (hg : 0 < g) : sgn (g * k) s / (g : Int) = sgn k s:=by
  have hg2 : (g : Int) ≠ 0:=by omega
  cases s
  · show ((g * k : Nat) : Int) / (g : Int) = (k : Int)
    rw [Int.natCast_mul,Int.mul_ediv_cancel_left _ hg2]
  · show -((g * k : Nat) : Int) / (g : Int) = -(k : Int)
    rw [Int.natCast_mul,<- Int.mul_neg,Int.mul_ediv_cancel_left _ hg2]
theorem lowR {P Q : Int} {p q : Nat} {s t : Bool} (hP : sgn p s = P) (hQ : sgn q t = Q) (hq : q ≠ 0) : resF (lowP P Q).natAbs (decide (lowP P Q < 0)) (lowQ P Q).natAbs (decide (lowQ P Q < 0)) = resR p s q t:=by
  subst hP;subst hQ
  have hg : 0 < Nat.gcd p q:=Nat.gcd_pos_of_pos_right _ (Nat.pos_of_ne_zero hq)
  have e1 : (if sgn q t < 0 then -sgn p s else sgn p s) = sgn p (if t then !s else s):=by
    cases t
    · rw [sgn_f,if_neg (by omega)];rfl
    · rw [sgn_t,if_pos (by omega)];cases s <;> simp [sgn]
  have e2 : lowP (sgn p s) (sgn q t) = sgn (p / Nat.gcd p q) (if t then !s else s):=by
    unfold lowP
    rw [e1,sgn_abs,sgn_abs]
    obtain ⟨k,hk⟩:=Nat.gcd_dvd_left p q
    generalize Nat.gcd p q = g at *
    subst hk
    rw [Nat.mul_div_cancel_left _ hg]
    exact sgn_exact _ _ _ hg
  have e3 : lowQ (sgn p s) (sgn q t) = ((q / Nat.gcd p q : Nat) : Int):=by
    unfold lowQ
    rw [sgn_abs,sgn_abs,Int.natCast_ediv]
  have e4 : decide (p = 0) = decide (p / Nat.gcd p q = 0):=by
    obtain ⟨k,hk⟩:=Nat.gcd_dvd_left p q
    generalize Nat.gcd p q = g at *
    subst hk
    rw [Nat.mul_div_cancel_left _ hg]
    by_cases hk0 : k = 0
    · subst hk0;simp
    · rw [decide_eq_false hk0,decide_eq_false (Nat.mul_ne_zero (by omega) hk0)]
  unfold resR
  rw [e2,e3,sgn_abs,sgn_lt,Int.natAbs_natCast]
  rw [show decide ((((q / Nat.gcd p q : Nat) : Int)) < 0) = false from decide_eq_false (Int.not_lt.2 (Int.natCast_nonneg _))]
  congr 1
  cases t
  · rfl
  · unfold ratS
    rw [if_pos rfl,if_pos rfl,e4]
    cases s <;> cases decide (p / Nat.gcd p q = 0) <;> rfl
end
section
open Go.RowKit
open Qd (lims)
end
section
open Go.RowKit
open Qd (lims)
end
end Go.Proofs.YtpbegoflpfdajaaGreatDoor
/- WHAT IS PROVED: contracts of functions of the numbers package and laws for them, used by the last text of this claim. CONDITIONS: stated at each theorem. -/
import Derived.Test.YtpbegoflpfdajaaGreatDoorN48
namespace Go.Proofs.YtpbegoflpfdajaaGreatDoor
section
open Go.RowKit
open Qd (lims)
set_option maxHeartbeats 8000000 in
set_option maxRecDepth 100000 in
theorem refBefore_any (x y : Value) (P1 Q1 P2 Q2 : Int) (l1 : Qd.lsz P1.natAbs <= 60) (l2 : Qd.lsz Q1.natAbs <= 60) (l3 : Qd.lsz P2.natAbs <= 60) (l4 : Qd.lsz Q2.natAbs <= 60) (w : World) (hx : FrAt w x P1 Q1) (hy : FrAt w y P2 Q2) :
    Calls Tryz.prog 112 #[x,y] w fun e w'=>e = .returned (.int .i64 (ocmp (P1 * Q2) (P2 * Q1)))/\Below w.heap.size w w':=by
  obtain ⟨t1,p1,k1,c1,t1',p1',k1',c1',rfl,g1,g2⟩:=hx
  obtain ⟨t2,p2,k2,c2,t2',p2',k2',c2',rfl,g3,g4⟩:=hy
  have hl0 : Below w.heap.size w ((w.alloc (.cells #[.bool t1,.slice p1 k1 c1,.bool t1',.slice p1' k1' c1'] 117)).alloc (.cells #[.bool t2,.slice p2 k2 c2,.bool t2',.slice p2' k2' c2'] 117)):=(by repeat' first | exact Below.refl _ _ | assumption | refine Below.setCell ?_ ?_ _ | refine Below.alloc ?_ ?_ _ | refine below_drewN ?_ | refine Below.drew ?_ | (simp;done) | (simp;omega))
  have FA0 : Fk ((w.alloc (.cells #[.bool t1,.slice p1 k1 c1,.bool t1',.slice p1' k1' c1'] 117)).alloc (.cells #[.bool t2,.slice p2 k2 c2,.bool t2',.slice p2' k2' c2'] 117)) w.heap.size (.bool t1) (.slice p1 k1 c1) (.bool t1') (.slice p1' k1' c1'):={ c0:=by go_simp,c1:=by go_simp,c2:=by go_simp,c3:=by go_simp,f0:=by go_simp,f1:=by go_simp,f2:=by go_simp,f3:=by go_simp,lt:=by simp <;> omega }
  have FB0 : Fk ((w.alloc (.cells #[.bool t1,.slice p1 k1 c1,.bool t1',.slice p1' k1' c1'] 117)).alloc (.cells #[.bool t2,.slice p2 k2 c2,.bool t2',.slice p2' k2' c2'] 117)) (w.heap.size + 1) (.bool t2) (.slice p2 k2 c2) (.bool t2') (.slice p2' k2' c2'):={ c0:=by go_simp,c1:=by go_simp,c2:=by go_simp,c3:=by go_simp,f0:=by go_simp,f1:=by go_simp,f2:=by go_simp,f3:=by go_simp,lt:=by simp <;> omega }
  have ga:=g1.keep hl0;have gb:=g2.keep hl0;have gc:=g3.keep hl0;have gd:=g4.keep hl0
  go_enter Tryz.func112,Tryz.ntmps112
  go_upto_region 1 with fail
  generalize ((w.alloc (.cells #[.bool t1,.slice p1 k1 c1,.bool t1',.slice p1' k1' c1'] 117)).alloc (.cells #[.bool t2,.slice p2 k2 c2,.bool t2',.slice p2' k2' c2'] 117)) = W0 at *
  have C1:=Lib.hid (fun W  (hb : Below W0.heap.size W0 W)  => refTimes_any (.agg #[.bool t1,.slice p1 k1 c1]) (.agg #[.bool t2',.slice p2' k2' c2']) (P1) (Q2) (by omega) (by omega) W (ga.keep hb) (gd.keep hb))
  have C2:=Lib.hid (fun W  (hb : Below W0.heap.size W0 W)  => refTimes_any (.agg #[.bool t2,.slice p2 k2 c2]) (.agg #[.bool t1',.slice p1' k1' c1']) (P2) (Q1) (by omega) (by omega) W (gc.keep hb) (gb.keep hb))
  have C3:=Lib.hid (fun W u1 u2 (hb : Below W0.heap.size W0 W) (hu1 : BigAt W u1 (P1 * Q2)) (hu2 : BigAt W u2 (P2 * Q1))=>refOrder_any u1 u2 (P1 * Q2) (P2 * Q1) (Nat.le_trans (mul_fit l1 l4) (by omega)) (Nat.le_trans (mul_fit l3 l2) (by omega)) W hu1 hu2)
  have a0:=FA0.c0;have a1:=FA0.c1;have a2:=FA0.c2;have a3:=FA0.c3;have b0:=FB0.c0;have b1:=FB0.c1;have b2:=FB0.c2;have b3:=FB0.c3
  have FA:=Lib.hid FA0;have FB:=Lib.hid FB0;have HL:=Lib.hid hl0
  clear FA0 FB0 hl0 g1 g2 g3 g4 ga gb gc gd l1 l2 l3 l4
  go_region_held3 (fun w'=>w'.cell? ⟨w.heap.size,0,none⟩ = some (.bool t1)/\w'.cell? ⟨w.heap.size,1,none⟩ = some (.slice p1 k1 c1)/\w'.cell? ⟨w.heap.size,2,none⟩ = some (.bool t1')/\w'.cell? ⟨w.heap.size,3,none⟩ = some (.slice p1' k1' c1')/\w'.cell? ⟨w.heap.size + 1,0,none⟩ = some (.bool t2)/\w'.cell? ⟨w.heap.size + 1,1,none⟩ = some (.slice p2 k2 c2)/\w'.cell? ⟨w.heap.size + 1,2,none⟩ = some (.bool t2')/\w'.cell? ⟨w.heap.size + 1,3,none⟩ = some (.slice p2' k2' c2')) (first | with_reducible exact ⟨a0,a1,a2,a3,b0,b1,b2,b3⟩ | with_reducible exact ⟨a10,a11,a12,a13,b10,b11,b12,b13⟩ | with_reducible exact ⟨a20,a21,a22,a23,b20,b21,b22,b23⟩ | with_reducible exact ⟨a30,a31,a32,a33,b30,b31,b32,b33⟩ | go_keep)
    (first
    | (go_at_call 84;(with_reducible refine (C1.out _  (by repeat' first | exact Below.refl _ _ | assumption | refine Below.setCell ?_ ?_ _ | refine Below.alloc ?_ ?_ _ | refine below_drewN ?_ | refine Below.drew ?_ | (simp;done) | (simp;omega)) ).mono ?_);rintro e w1 ⟨v1,rfl,hg1,hb1⟩;obtain ⟨t1x,p1x,k1x,c1x,rfl⟩:=hg1.shape;have hq1 : Below W0.heap.size W0 w1:=Below.trans (B:=W0.heap.size) (by repeat' first | exact Below.refl _ _ | assumption | refine Below.setCell ?_ ?_ _ | refine Below.alloc ?_ ?_ _ | refine below_drewN ?_ | refine Below.drew ?_ | (simp;done) | (simp;omega)) (Below.mono hb1 (by simp;done));have a10:=(FA.out.keep hq1).c0;have b10:=(FB.out.keep hq1).c0;have a11:=(FA.out.keep hq1).c1;have b11:=(FB.out.keep hq1).c1;have a12:=(FA.out.keep hq1).c2;have b12:=(FB.out.keep hq1).c2;have a13:=(FA.out.keep hq1).c3;have b13:=(FB.out.keep hq1).c3)
    | (go_at_call 84;(with_reducible refine (C2.out _  (by repeat' first | exact Below.refl _ _ | assumption | refine Below.setCell ?_ ?_ _ | refine Below.alloc ?_ ?_ _ | refine below_drewN ?_ | refine Below.drew ?_ | (simp;done) | (simp;omega)) ).mono ?_);rintro e w2 ⟨v2,rfl,hg2,hb2⟩;obtain ⟨t2x,p2x,k2x,c2x,rfl⟩:=hg2.shape;have hq2 : Below W0.heap.size W0 w2:=Below.trans (B:=W0.heap.size) (by repeat' first | exact Below.refl _ _ | assumption | refine Below.setCell ?_ ?_ _ | refine Below.alloc ?_ ?_ _ | refine below_drewN ?_ | refine Below.drew ?_ | (simp;done) | (simp;omega)) (Below.mono hb2 (by first | (simp;done) | (have:=hq1.size;simp;omega)));have hh12:=keep_on hg1 (by repeat' first | exact Below.refl _ _ | assumption | refine Below.setCell ?_ ?_ _ | refine Below.alloc ?_ ?_ _ | refine below_drewN ?_ | refine Below.drew ?_ | (simp;done) | (simp;omega)) hb2;have a20:=(FA.out.keep hq2).c0;have b20:=(FB.out.keep hq2).c0;have a21:=(FA.out.keep hq2).c1;have b21:=(FB.out.keep hq2).c1;have a22:=(FA.out.keep hq2).c2;have b22:=(FB.out.keep hq2).c2;have a23:=(FA.out.keep hq2).c3;have b23:=(FB.out.keep hq2).c3)
    | (go_at_call 71;(with_reducible refine (C3.out _ _ _ (by repeat' first | exact Below.refl _ _ | assumption | refine Below.setCell ?_ ?_ _ | refine Below.alloc ?_ ?_ _ | refine below_drewN ?_ | refine Below.drew ?_ | (simp;done) | (simp;omega)) (BigAt.keep hh12 (by repeat' first | exact Below.refl _ _ | assumption | refine Below.setCell ?_ ?_ _ | refine Below.alloc ?_ ?_ _ | refine below_drewN ?_ | refine Below.drew ?_ | (simp;done) | (simp;omega))) (BigAt.keep hg2 (by repeat' first | exact Below.refl _ _ | assumption | refine Below.setCell ?_ ?_ _ | refine Below.alloc ?_ ?_ _ | refine below_drewN ?_ | refine Below.drew ?_ | (simp;done) | (simp;omega)))).mono ?_);rintro e w3 ⟨rfl,hb3⟩;have hq3 : Below W0.heap.size W0 w3:=Below.trans (B:=W0.heap.size) (by repeat' first | exact Below.refl _ _ | assumption | refine Below.setCell ?_ ?_ _ | refine Below.alloc ?_ ?_ _ | refine below_drewN ?_ | refine Below.drew ?_ | (simp;done) | (simp;omega)) (Below.mono hb3 (by first | (simp;done) | (have:=hq2.size;simp;omega)));have a30:=(FA.out.keep hq3).c0;have b30:=(FB.out.keep hq3).c0;have a31:=(FA.out.keep hq3).c1;have b31:=(FB.out.keep hq3).c1;have a32:=(FA.out.keep hq3).c2;have b32:=(FB.out.keep hq3).c2;have a33:=(FA.out.keep hq3).c3;have b33:=(FB.out.keep hq3).c3))
  go_wp2_with fail
  go_ret
  exact ⟨rfl,HL.out.trans (hq3.mono HL.out.size)⟩
end
section
open Go.RowKit
open Qd (lims)
theorem sgn_lt (n : Nat) (s : Bool) : decide (sgn n s < 0) = (s && !decide (n = 0)):=by
  by_cases h : n = 0
  · subst h;cases s <;> rfl
  · rw [decide_eq_false h]
    cases s
    · exact decide_eq_false (by rw [sgn_f];omega)
    · exact decide_eq_true (by rw [sgn_t];omega)
theorem sgn_exact (g k : Nat) (s : Bool) (hg : 0 < g) : sgn (g * k) s / (g : Int) = sgn k s:=by
  have hg2 : (g : Int) ≠ 0:=by omega
  cases s
  · show ((g * k : Nat) : Int) / (g : Int) = (k : Int)
    rw [Int.natCast_mul,Int.mul_ediv_cancel_left _ hg2]
  · show -((g * k : Nat) : Int) / (g : Int) = -(k : Int)
    rw [Int.natCast_mul,<- Int.mul_neg,Int.mul_ediv_cancel_left _ hg2]
theorem lowR {P Q : Int} {p q : Nat} {s t : Bool} (hP : sgn p s = P) (hQ : sgn q t = Q) (hq : q ≠ 0) : resF (lowP P Q).natAbs (decide (lowP P Q < 0)) (lowQ P Q).natAbs (decide (lowQ P Q < 0)) = resR p s q t:=by
  subst hP;subst hQ
  have hg : 0 < Nat.gcd p q:=Nat.gcd_pos_of_pos_right _ (Nat.pos_of_ne_zero hq)
  have e1 : (if sgn q t < 0 then -sgn p s else sgn p s) = sgn p (if t then !s else s):=by
    cases t
    · rw [sgn_f,if_neg (by omega)];rfl
    · rw [sgn_t,if_pos (by omega)];cases s <;> simp [sgn]
  have e2 : lowP (sgn p s) (sgn q t) = sgn (p / Nat.gcd p q) (if t then !s else s):=by
    unfold lowP
    rw [e1,sgn_abs,sgn_abs]
    obtain ⟨k,hk⟩:=Nat.gcd_dvd_left p q
    generalize Nat.gcd p q = g at *
    subst hk
    rw [Nat.mul_div_cancel_left _ hg]
    exact sgn_exact _ _ _ hg
  have e3 : lowQ (sgn p s) (sgn q t) = ((q / Nat.gcd p q : Nat) : Int):=by
    unfold lowQ
    rw [sgn_abs,sgn_abs,Int.natCast_ediv]
  have e4 : decide (p = 0) = decide (p / Nat.gcd p q = 0):=by
    obtain ⟨k,hk⟩:=Nat.gcd_dvd_left p q
    generalize Nat.gcd p q = g at *
    subst hk
    rw [Nat.mul_div_cancel_left _ hg]
    by_cases hk0 : k = 0
    · subst hk0;simp
    · rw [decide_eq_false hk0,decide_eq_false (Nat.mul_ne_zero (by omega) hk0)]
  unfold resR
  rw [e2,e3,sgn_abs,sgn_lt,Int.natAbs_natCast]
  rw [show decide ((((q / Nat.gcd p q : Nat) : Int)) < 0) = false from decide_eq_false (Int.not_lt.2 (Int.natCast_nonneg _))]
  congr 1
  cases t
  · rfl
  · unfold ratS
    rw [if_pos rfl,if_pos rfl,e4]
    cases s <;> cases decide (p / Nat.gcd p q = 0) <;> rfl
theorem ret117_2 {fn : Func} {R : Ending->World->Prop} {a : Act} {w : World} {m1 m2 m3 : Nat} (hres : fn.results = #[.cell m1 117,.cell m2 117,.tmp m3]) (b1 b2 : Nat) (h1 : a.tmps.getD m1 undef = .pointer (some ⟨b1,0,none⟩)) (h2 : a.tmps.getD m2 undef = .pointer (some ⟨b2,0,none⟩)) (r : Value) (h3 : a.tmps.getD m3 undef = r) (x1 y1 u1 v1 x2 y2 u2 v2 : Value)
    (k1 : Fk w b1 x1 y1 u1 v1) (k2 : Fk w b2 x2 y2 u2 v2) (hdf : a.defers = []) (hR : R (.returned (.tuple #[.agg #[x1,y1,u1,v1],.agg #[x2,y2,u2,v2],r])) w) : bodyPost Tryz.prog fn R .ret a w:=by
  refine bodyPost_ret (v:=.tuple #[.agg #[x1,y1,u1,v1],.agg #[x2,y2,u2,v2],r]) ?_ hdf hR
  have r1:=run_loadVar_mid w b1 0 117 [x1,y1,u1,v1] _ (range_four k1.c0 k1.c1 k1.c2 k1.c3) Tryz.underlying117 rfl i117
  have r2:=run_loadVar_mid w b2 0 117 [x2,y2,u2,v2] _ (range_four k2.c0 k2.c1 k2.c2 k2.c3) Tryz.underlying117 rfl i117
  have h5 : ∀ tmps : Array Value,tmps.getD m1 undef = .pointer (some ⟨b1,0,none⟩)->tmps.getD m2 undef = .pointer (some ⟨b2,0,none⟩)->tmps.getD m3 undef = r->(results fn tmps).run Tryz.prog w = .ok (.tuple #[.agg #[x1,y1,u1,v1],.agg #[x2,y2,u2,v2],r]) w:=by
    intro tmps g1 g2 g3
    have g1' : tmps[m1]?.getD undef = .pointer (some ⟨b1,0,none⟩):=by simpa using g1
    have g2' : tmps[m2]?.getD undef = .pointer (some ⟨b2,0,none⟩):=by simpa using g2
    have g3' : tmps[m3]?.getD undef = r:=by simpa using g3
    unfold results
    rw [hres]
    simp [asAddr,g1',g2',g3',r1,r2]
  exact h5 _ h1 h2 h3
end
section
open Go.RowKit
open Qd (lims)
set_option maxHeartbeats 4000000 in
set_option maxRecDepth 100000 in
theorem refTwo_err (x y : ByteArray) (sx : x.size <= 300) (sy : y.size <= 300) (h0 : ckR2 x y ≠ 0) (w : World) : Calls Tryz.prog 100 #[.string x,.string y] w fun e w'=>e = .returned (.tuple #[.agg #[.bool false,.slice none 0 0,.bool false,.slice none 0 0],.agg #[.bool false,.slice none 0 0,.bool false,.slice none 0 0],.int .i64 (ckR2 x y)])/\Below w.heap.size w w':=by
  have Cx:=Lib.hid (fun W=>refCheckReal_any x sx W)
  have Cy:=Lib.hid (fun W=>refCheckReal_any y sy W)
  unfold ckR2 at h0 ⊢
  obtain ⟨E1,h1⟩ : ∃ E,ckR x.data.toList = E:=⟨_,rfl⟩
  obtain ⟨E2,h2⟩ : ∃ E,ckR y.data.toList = E:=⟨_,rfl⟩
  rw [h1] at Cx h0 ⊢
  rw [h2] at Cy h0 ⊢
  obtain ⟨E,hE⟩ : ∃ E,firstE [E1,E2] = E:=⟨_,rfl⟩
  rw [hE] at h0 ⊢
  have d0 : (E != 0) = true:=by simpa using h0
  have FA0 : Fk ((w.alloc (.cells #[.bool false,.slice none 0 0,.bool false,.slice none 0 0] 117)).alloc (.cells #[.bool false,.slice none 0 0,.bool false,.slice none 0 0] 117)) w.heap.size (.bool false) (.slice none 0 0) (.bool false) (.slice none 0 0):={ c0:=by go_simp,c1:=by go_simp,c2:=by go_simp,c3:=by go_simp,f0:=by go_simp,f1:=by go_simp,f2:=by go_simp,f3:=by go_simp,lt:=by simp <;> omega }
  have FB0 : Fk ((w.alloc (.cells #[.bool false,.slice none 0 0,.bool false,.slice none 0 0] 117)).alloc (.cells #[.bool false,.slice none 0 0,.bool false,.slice none 0 0] 117)) (w.heap.size + 1) (.bool false) (.slice none 0 0) (.bool false) (.slice none 0 0):={ c0:=by go_simp,c1:=by go_simp,c2:=by go_simp,c3:=by go_simp,f0:=by go_simp,f1:=by go_simp,f2:=by go_simp,f3:=by go_simp,lt:=by simp <;> omega }
  have hl0 : Below w.heap.size w ((w.alloc (.cells #[.bool false,.slice none 0 0,.bool false,.slice none 0 0] 117)).alloc (.cells #[.bool false,.slice none 0 0,.bool false,.slice none 0 0] 117)):=(by repeat' first | exact Below.refl _ _ | assumption | refine Below.setCell ?_ ?_ _ | refine Below.alloc ?_ ?_ _ | refine below_drewN ?_ | refine Below.drew ?_ | (simp;done) | (simp;omega))
  clear h1 h2 h0 sx sy
  go_enter Tryz.func100,Tryz.ntmps100
  go_upto_region 1 with fail
  generalize ((w.alloc (.cells #[.bool false,.slice none 0 0,.bool false,.slice none 0 0] 117)).alloc (.cells #[.bool false,.slice none 0 0,.bool false,.slice none 0 0] 117)) = W0 at *
  have FA:=Lib.hid FA0;have FB:=Lib.hid FB0;have HL:=Lib.hid hl0
  clear FA0 FB0 hl0
  go_upto_region 3 with (first
    | (go_at_call 46;(with_reducible refine (Cx.out _).mono ?_);rintro e w1 ⟨rfl,hb1⟩)
    | (go_at_call 46;(with_reducible refine (Cy.out _).mono ?_);rintro e w2 ⟨rfl,hb2⟩;have hb2q : Below W0.heap.size W0 w2:=hb1.trans (hb2.mono hb1.size);have hs2:=hb2q.size)
    | (go_at_call 79;(with_reducible refine (refFirst_any _ 2 2 [E1,E2] rfl (by omega) _ (pair_cells _ E1 E2 3)).mono ?_);rintro e w3 ⟨rfl,hw⟩;subst w3;rw [hE]))
  have hb3 : Below W0.heap.size W0 (w2.alloc (.cells #[.int .i64 E1,.int .i64 E2] 3)):=hb2q.alloc hs2 _
  have A3:=FA.out.keep hb3;have B3:=FB.out.keep hb3
  have hl3:=HL.out.trans (hb3.mono HL.out.size)
  generalize w2.alloc (.cells #[.int .i64 E1,.int .i64 E2] 3) = W3 at *
  have a0:=A3.c0;have a1:=A3.c1;have a2:=A3.c2;have a3:=A3.c3;have a4:=A3.f0;have a5:=A3.f1;have a6:=A3.f2;have a7:=A3.f3
  have b0:=B3.c0;have b1:=B3.c1;have b2:=B3.c2;have b3:=B3.c3;have b4:=B3.f0;have b5:=B3.f1;have b6:=B3.f2;have b7:=B3.f3
  have A3:=Lib.hid A3;have B3:=Lib.hid B3
  go_wp2_with fail
  have A4:=(A3.out.set4 (.bool false) (.slice none 0 0) (.bool false) (.slice none 0 0)).other4 (b:=w.heap.size + 1) (by omega) (.bool false) (.slice none 0 0) (.bool false) (.slice none 0 0)
  have B4:=(B3.out.other4 (b:=w.heap.size) (by omega) (.bool false) (.slice none 0 0) (.bool false) (.slice none 0 0)).set4 (.bool false) (.slice none 0 0) (.bool false) (.slice none 0 0)
  refine ret117_2 Tryz.results100 _ _ rfl rfl _ rfl _ _ _ _ _ _ _ _ A4 B4 rfl ?_
  exact ⟨rfl,((((((((hl3).setCell (p:=⟨w.heap.size,0,none⟩) (Nat.le_refl _) _).setCell (p:=⟨w.heap.size,1,none⟩) (Nat.le_refl _) _).setCell (p:=⟨w.heap.size,2,none⟩) (Nat.le_refl _) _).setCell (p:=⟨w.heap.size,3,none⟩) (Nat.le_refl _) _).setCell (p:=⟨w.heap.size + 1,0,none⟩) (Nat.le_succ _) _).setCell (p:=⟨w.heap.size + 1,1,none⟩) (Nat.le_succ _) _).setCell (p:=⟨w.heap.size + 1,2,none⟩) (Nat.le_succ _) _).setCell (p:=⟨w.heap.size + 1,3,none⟩) (Nat.le_succ _) _⟩
set_option maxHeartbeats 4000000 in
set_option maxRecDepth 100000 in
theorem refTwo_ok (x y : ByteArray) (sx : x.size <= 300) (sy : y.size <= 300) (hx : Okq x) (hy : Okq y) (w : World) : Calls Tryz.prog 100 #[.string x,.string y] w fun e w'=>∃ v1 v2,e = .returned (.tuple #[v1,v2,.int .i64 0])/\FrAt w' v1 (sgn (frN x.data.toList) (frS x.data.toList)) (frD x.data.toList)/\FrAt w' v2 (sgn (frN y.data.toList) (frS y.data.toList)) (frD y.data.toList)/\Below w.heap.size w w':=by
  have Cx:=Lib.hid (fun W=>refCheckReal_any x sx W)
  have Cy:=Lib.hid (fun W=>refCheckReal_any y sy W)
  rw [show ckR x.data.toList = 0 from hx] at Cx
  rw [show ckR y.data.toList = 0 from hy] at Cy
  have hf2 : firstE [(0 : Int),0] = 0:=rfl
  have Rx:=Lib.hid (fun W=>refReadReal_any x sx hx W)
  have Ry:=Lib.hid (fun W=>refReadReal_any y sy hy W)
  obtain ⟨P1,hP1⟩ : ∃ z,sgn (frN x.data.toList) (frS x.data.toList) = z:=⟨_,rfl⟩
  obtain ⟨Q1,hQ1⟩ : ∃ z : Int,(frD x.data.toList : Int) = z:=⟨_,rfl⟩
  obtain ⟨P2,hP2⟩ : ∃ z,sgn (frN y.data.toList) (frS y.data.toList) = z:=⟨_,rfl⟩
  obtain ⟨Q2,hQ2⟩ : ∃ z : Int,(frD y.data.toList : Int) = z:=⟨_,rfl⟩
  rw [hP1,hQ1] at Rx ⊢
  rw [hP2,hQ2] at Ry ⊢
  have FA0 : Fk ((w.alloc (.cells #[.bool false,.slice none 0 0,.bool false,.slice none 0 0] 117)).alloc (.cells #[.bool false,.slice none 0 0,.bool false,.slice none 0 0] 117)) w.heap.size (.bool false) (.slice none 0 0) (.bool false) (.slice none 0 0):={ c0:=by go_simp,c1:=by go_simp,c2:=by go_simp,c3:=by go_simp,f0:=by go_simp,f1:=by go_simp,f2:=by go_simp,f3:=by go_simp,lt:=by simp <;> omega }
  have FB0 : Fk ((w.alloc (.cells #[.bool false,.slice none 0 0,.bool false,.slice none 0 0] 117)).alloc (.cells #[.bool false,.slice none 0 0,.bool false,.slice none 0 0] 117)) (w.heap.size + 1) (.bool false) (.slice none 0 0) (.bool false) (.slice none 0 0):={ c0:=by go_simp,c1:=by go_simp,c2:=by go_simp,c3:=by go_simp,f0:=by go_simp,f1:=by go_simp,f2:=by go_simp,f3:=by go_simp,lt:=by simp <;> omega }
  have hl0 : Below w.heap.size w ((w.alloc (.cells #[.bool false,.slice none 0 0,.bool false,.slice none 0 0] 117)).alloc (.cells #[.bool false,.slice none 0 0,.bool false,.slice none 0 0] 117)):=(by repeat' first | exact Below.refl _ _ | assumption | refine Below.setCell ?_ ?_ _ | refine Below.alloc ?_ ?_ _ | refine below_drewN ?_ | refine Below.drew ?_ | (simp;done) | (simp;omega))
  clear hP1 hQ1 hP2 hQ2 hx hy sx sy
  go_enter Tryz.func100,Tryz.ntmps100
  go_upto_region 1 with fail
  generalize ((w.alloc (.cells #[.bool false,.slice none 0 0,.bool false,.slice none 0 0] 117)).alloc (.cells #[.bool false,.slice none 0 0,.bool false,.slice none 0 0] 117)) = W0 at *
  have FA:=Lib.hid FA0;have FB:=Lib.hid FB0;have HL:=Lib.hid hl0
  clear FA0 FB0 hl0
  go_upto_region 4 with (first
    | (go_at_call 46;(with_reducible refine (Cx.out _).mono ?_);rintro e w1 ⟨rfl,hb1⟩)
    | (go_at_call 46;(with_reducible refine (Cy.out _).mono ?_);rintro e w2 ⟨rfl,hb2⟩;have hb2q : Below W0.heap.size W0 w2:=hb1.trans (hb2.mono hb1.size);have hs2:=hb2q.size)
    | (go_at_call 79;(with_reducible refine (refFirst_any _ 2 2 [(0 : Int),0] rfl (by omega) _ (pair_cells _ 0 0 3)).mono ?_);rintro e w3 ⟨rfl,hw⟩;subst w3;rw [hf2]))
  have hb3 : Below W0.heap.size W0 (w2.alloc (.cells #[.int .i64 0,.int .i64 0] 3)):=hb2q.alloc hs2 _
  have A3:=FA.out.keep hb3;have B3:=FB.out.keep hb3
  have hl3:=HL.out.trans (hb3.mono HL.out.size)
  generalize w2.alloc (.cells #[.int .i64 0,.int .i64 0] 3) = W3 at *
  have A3:=Lib.hid A3;have B3:=Lib.hid B3;have HL3:=Lib.hid hl3
  clear hl3
  go_wp2_with (first
    | (go_at_call 122;(with_reducible refine (Rx.out _).mono ?_);rintro e w5 ⟨v5,rfl,hg5,hb5⟩;obtain ⟨t5,p5,k5,c5,t5',p5',k5',c5',rfl,hx1,hx2⟩:=hg5)
    | (go_at_call 122;(with_reducible refine (Ry.out _).mono ?_);rintro e w6 ⟨v6,rfl,hg6,hb6⟩;obtain ⟨t6,p6,k6,c6,t6',p6',k6',c6',rfl,hy1,hy2⟩:=hg6;have hb6q : Below W3.heap.size W3 w6:=hb5.trans (hb6.mono hb5.size);have A6:=A3.out.keep hb6q;have B6:=B3.out.keep hb6q;have hl6:=HL3.out.trans (hb6q.mono HL3.out.size);have hx1':=hx1.keep hb6;have hx2':=hx2.keep hb6;have a0:=A6.c0;have a1:=A6.c1;have a2:=A6.c2;have a3:=A6.c3;have a4:=A6.f0;have a5:=A6.f1;have a6:=A6.f2;have a7:=A6.f3;have b0:=B6.c0;have b1:=B6.c1;have b2:=B6.c2;have b3:=B6.c3;have b4:=B6.f0;have b5:=B6.f1;have b6:=B6.f2;have b7:=B6.f3;have A6:=Lib.hid A6;have B6:=Lib.hid B6))
  have A8:=(A6.out.set4 (.bool t5) (.slice p5 k5 c5) (.bool t5') (.slice p5' k5' c5')).other4 (b:=w.heap.size + 1) (by omega) (.bool t6) (.slice p6 k6 c6) (.bool t6') (.slice p6' k6' c6')
  have B7:=B6.out.other4 (b:=w.heap.size) (by omega) (.bool t5) (.slice p5 k5 c5) (.bool t5') (.slice p5' k5' c5')
  have B8:=B7.set4 (.bool t6) (.slice p6 k6 c6) (.bool t6') (.slice p6' k6' c6')
  refine ret117_2 Tryz.results100 _ _ rfl rfl _ rfl _ _ _ _ _ _ _ _ A8 B8 rfl ?_
  exact ⟨_,_,rfl,⟨t5,p5,k5,c5,t5',p5',k5',c5',rfl,(hx1'.set4 A6.out _ _ _ _).set4 B7 _ _ _ _,(hx2'.set4 A6.out _ _ _ _).set4 B7 _ _ _ _⟩,⟨t6,p6,k6,c6,t6',p6',k6',c6',rfl,(hy1.set4 A6.out _ _ _ _).set4 B7 _ _ _ _,(hy2.set4 A6.out _ _ _ _).set4 B7 _ _ _ _⟩,((((((((hl6).setCell (p:=⟨w.heap.size,0,none⟩) (Nat.le_refl _) _).setCell (p:=⟨w.heap.size,1,none⟩) (Nat.le_refl _) _).setCell (p:=⟨w.heap.size,2,none⟩) (Nat.le_refl _) _).setCell (p:=⟨w.heap.size,3,none⟩) (Nat.le_refl _) _).setCell (p:=⟨w.heap.size + 1,0,none⟩) (Nat.le_succ _) _).setCell (p:=⟨w.heap.size + 1,1,none⟩) (Nat.le_succ _) _).setCell (p:=⟨w.heap.size + 1,2,none⟩) (Nat.le_succ _) _).setCell (p:=⟨w.heap.size + 1,3,none⟩) (Nat.le_succ _) _⟩
end
section
open Go.RowKit
open Qd (lims)
set_option maxHeartbeats 4000000 in
set_option maxRecDepth 100000 in
theorem refOpposite_any (x : Value) (P Q : Int) (l1 : Qd.lsz P.natAbs <= 60) (w : World) (hx : FrAt w x P Q) :
    Calls Tryz.prog 104 #[x] w fun e w'=>∃ v,e = .returned v/\FrAt w' v (-P) Q/\Below w.heap.size w w':=by
  obtain ⟨t1,p1,k1,c1,t1',p1',k1',c1',rfl,g1,g2⟩:=hx
  have hl0 : Below w.heap.size w ((w.alloc (.cells #[.bool t1,.slice p1 k1 c1,.bool t1',.slice p1' k1' c1'] 117)).alloc (.cells #[.bool false,.slice none 0 0,.bool false,.slice none 0 0] 117)):=(by repeat' first | exact Below.refl _ _ | assumption | refine Below.setCell ?_ ?_ _ | refine Below.alloc ?_ ?_ _ | refine below_drewN ?_ | refine Below.drew ?_ | (simp;done) | (simp;omega))
  have FA0 : Fk ((w.alloc (.cells #[.bool t1,.slice p1 k1 c1,.bool t1',.slice p1' k1' c1'] 117)).alloc (.cells #[.bool false,.slice none 0 0,.bool false,.slice none 0 0] 117)) w.heap.size (.bool t1) (.slice p1 k1 c1) (.bool t1') (.slice p1' k1' c1'):={ c0:=by go_simp,c1:=by go_simp,c2:=by go_simp,c3:=by go_simp,f0:=by go_simp,f1:=by go_simp,f2:=by go_simp,f3:=by go_simp,lt:=by simp <;> omega }
  have FZ0 : Fk ((w.alloc (.cells #[.bool t1,.slice p1 k1 c1,.bool t1',.slice p1' k1' c1'] 117)).alloc (.cells #[.bool false,.slice none 0 0,.bool false,.slice none 0 0] 117)) (w.heap.size + 1) (.bool false) (.slice none 0 0) (.bool false) (.slice none 0 0):={ c0:=by go_simp,c1:=by go_simp,c2:=by go_simp,c3:=by go_simp,f0:=by go_simp,f1:=by go_simp,f2:=by go_simp,f3:=by go_simp,lt:=by simp <;> omega }
  have ga:=g1.keep hl0;have gb:=g2.keep hl0
  go_enter Tryz.func104,Tryz.ntmps104
  go_upto_region 1 with fail
  generalize ((w.alloc (.cells #[.bool t1,.slice p1 k1 c1,.bool t1',.slice p1' k1' c1'] 117)).alloc (.cells #[.bool false,.slice none 0 0,.bool false,.slice none 0 0] 117)) = W0 at *
  have C1:=Lib.hid (fun W (hb : Below W0.heap.size W0 W)=>refNegative_any (.agg #[.bool t1,.slice p1 k1 c1]) P (by omega) W (ga.keep hb))
  have a0:=FA0.c0;have a1:=FA0.c1;have a2:=FA0.c2;have a3:=FA0.c3
  have FA:=Lib.hid FA0;have HL:=Lib.hid hl0;have FZ:=Lib.hid FZ0;have GB:=Lib.hid gb
  clear FA0 hl0 g1 g2 ga gb l1 FZ0
  go_region_held3 (fun w'=>w'.cell? ⟨w.heap.size,0,none⟩ = some (.bool t1)/\w'.cell? ⟨w.heap.size,1,none⟩ = some (.slice p1 k1 c1)/\w'.cell? ⟨w.heap.size,2,none⟩ = some (.bool t1')/\w'.cell? ⟨w.heap.size,3,none⟩ = some (.slice p1' k1' c1')) (first | with_reducible exact ⟨a0,a1,a2,a3⟩ | with_reducible exact ⟨a10,a11,a12,a13⟩ | exact ⟨((FA.out.keep hq1).other4 (b:=w.heap.size + 1) (by omega) _ _ _ _).c0,((FA.out.keep hq1).other4 (b:=w.heap.size + 1) (by omega) _ _ _ _).c1,((FA.out.keep hq1).other4 (b:=w.heap.size + 1) (by omega) _ _ _ _).c2,((FA.out.keep hq1).other4 (b:=w.heap.size + 1) (by omega) _ _ _ _).c3⟩ | go_keep)
    (first
      | (go_at_call 76;(with_reducible refine (C1.out _ (by repeat' first | exact Below.refl _ _ | assumption | refine Below.setCell ?_ ?_ _ | refine Below.alloc ?_ ?_ _ | refine below_drewN ?_ | refine Below.drew ?_ | (simp;done) | (simp;omega))).mono ?_);rintro e w1 ⟨v1,rfl,hg1,hb1⟩;obtain ⟨t3,p3,k3,c3,rfl⟩:=hg1.shape;have hq1 : Below W0.heap.size W0 w1:=Below.trans (B:=W0.heap.size) (by repeat' first | exact Below.refl _ _ | assumption | refine Below.setCell ?_ ?_ _ | refine Below.alloc ?_ ?_ _ | refine below_drewN ?_ | refine Below.drew ?_ | (simp;done) | (simp;omega)) (Below.mono hb1 (by simp;done));have a10:=(FA.out.keep hq1).c0;have a11:=(FA.out.keep hq1).c1;have a12:=(FA.out.keep hq1).c2;have a13:=(FA.out.keep hq1).c3;have z0:=(FZ.out.keep hq1).c0;have z1:=(FZ.out.keep hq1).c1;have z2:=(FZ.out.keep hq1).c2;have z3:=(FZ.out.keep hq1).c3;have y0:=(FZ.out.keep hq1).f0;have y1:=(FZ.out.keep hq1).f1;have y2:=(FZ.out.keep hq1).f2;have y3:=(FZ.out.keep hq1).f3))
  go_wp2_with fail
  have F10:=(FZ.out.keep hq1).set4 (.bool t3) (.slice p3 k3 c3) (.bool t1') (.slice p1' k1' c1')
  refine ret117 Tryz.results104 _ rfl _ _ _ _ F10.c0 F10.c1 F10.c2 F10.c3 rfl ?_
  have hl9:=HL.out.trans (hq1.mono HL.out.size)
  exact ⟨_,rfl,⟨t3,p3,k3,c3,t1',p1',k1',c1',rfl,hg1.set4 (FZ.out.keep hq1) _ _ _ _,(GB.out.keep hq1).set4 (FZ.out.keep hq1) _ _ _ _⟩,(((hl9.setCell (p:=⟨w.heap.size + 1,0,none⟩) (Nat.le_succ _) _).setCell (p:=⟨w.heap.size + 1,1,none⟩) (Nat.le_succ _) _).setCell (p:=⟨w.heap.size + 1,2,none⟩) (Nat.le_succ _) _).setCell (p:=⟨w.heap.size + 1,3,none⟩) (Nat.le_succ _) _⟩
end
end Go.Proofs.YtpbegoflpfdajaaGreatDoor
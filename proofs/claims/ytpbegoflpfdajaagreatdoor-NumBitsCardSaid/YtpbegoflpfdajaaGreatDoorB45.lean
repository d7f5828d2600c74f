/- WHAT IS PROVED: contracts of functions of the numbers package and laws for them, used by the last text of this claim. CONDITIONS: stated at each theorem. -/
import Derived.Test.YtpbegoflpfdajaaGreatDoorB44
import Derived.BigQuiet
import Derived.Deep.DeepCutAuto
import Derived.Deep.LoopGhost
namespace Go.Proofs.YtpbegoflpfdajaaGreatDoor
section
open Go.RowKit
open Qd (lims)
set_option maxHeartbeats 4000000 in
set_option maxRecDepth 100000 in
theorem refShift_any (v : Value) (z : Int) (h0 : 0 <= z) (hz : Qd.lsz z.natAbs <= 10000) (k : Nat) (hk : k <= 64) (w : World) (g : BigAt w v z) :
    Calls Tryz.prog 131 #[v,.int .i64 k] w fun e w'=>e = .returned (.int .i64 (if (k : Int) <= z then k else z))/\Below w.heap.size w w':=by
  obtain ⟨s,hv,hs⟩:=g
  have g : BigAt w v z:=⟨s,hv,hs⟩
  obtain ⟨p,c,rfl,_,_⟩:=hs.parts
  obtain ⟨a,ha⟩ : ∃ a,Qd.lsz z.natAbs = a:=⟨_,rfl⟩
  obtain ⟨b3,hb3⟩ : ∃ b,decide (z < 0) = b:=⟨_,rfl⟩
  rw [ha] at hv hs
  rw [hb3] at hv
  subst hv
  have C1:=Lib.hid (fun W=>refSmall_any (k : Int) (by omega) (by omega) W)
  have CO:=Lib.hid (fun W v1 v2 (g1 : BigAt W v1 z) (g2 : BigAt W v2 (k : Int))=>refOrder_any v1 v2 z k hz (by have:=lsz_i64 (n:=(k : Int)) (by omega) (by omega);omega) W g1 g2)
  have CL : Hid (∀ W,Mg W (.slice p a c) (lims z.natAbs a)->Calls Tryz.prog 152 #[.slice p a c,.int .i64 0] W fun e w'=>e = .returned (.int .i64 (((lims z.natAbs a).getD 0 0 : Nat) : Int))/\w' = W):=Lib.hid (fun W (h : Mg W (.slice p a c) (lims z.natAbs a))=>refLimb_any (.slice p a c) (lims z.natAbs a) 0 (by rw [Qd.lims_length];omega) (by omega) W h)
  have hm0 : Mg w (.slice p a c) (lims z.natAbs a):=by rw [<- ha] at hs ⊢;exact hs
  have hlim : ¬ (k : Int) <= z->(((lims z.natAbs a).getD 0 0 : Nat) : Int) = z:=fun h=>by
    rw [<- ha,Qd.lims_getD _ _ _ (Qd.lsz_lt _),Qd.lim_small (by unfold Qd.bb;omega)]
    omega
  obtain ⟨L,hL⟩ : ∃ L,(lims z.natAbs a).getD 0 0 = L:=⟨_,rfl⟩
  rw [hL] at CL hlim
  obtain ⟨r,hr⟩ : ∃ r,ocmp z k = r:=⟨_,rfl⟩
  rw [hr] at CO
  have t50 : (w.alloc (.cells #[.bool b3,.slice p a c] 74)).cell? ⟨w.heap.size,0,none⟩ = some (.bool b3):=by go_simp
  have t51 : (w.alloc (.cells #[.bool b3,.slice p a c] 74)).cell? ⟨w.heap.size,1,none⟩ = some (.slice p a c):=by go_simp
  have hb5 : Below w.heap.size w (w.alloc (.cells #[.bool b3,.slice p a c] 74)):=(by repeat' first | exact Below.refl _ _ | assumption | refine Below.setCell ?_ ?_ _ | refine Below.alloc ?_ ?_ _ | refine below_drewN ?_ | refine Below.drew ?_ | (simp;done) | (simp;omega))
  have hg5:=g.keep hb5
  have hm5:=Mg.keep hm0 hb5
  have hs5 : (w.alloc (.cells #[.bool b3,.slice p a c] 74)).heap.size = w.heap.size + 1:=by simp
  by_cases hc : (k : Int) <= z
  all_goals
    first
    | (rw [if_pos hc];have hr1 : decide (0 <= r) = true:=(by rw [<- hr];unfold ocmp;rw [if_neg (by omega)];split <;> rfl))
    | (rw [if_neg hc,<- hlim hc];have hr1 : decide (0 <= r) = false:=(by rw [<- hr];unfold ocmp;rw [if_pos (by omega)];rfl))
    clear hlim hr hL ha hs g hm0 hz hb3
    go_enter Tryz.func131,Tryz.ntmps131
    go_wp2
    generalize w.alloc (Obj.cells #[.bool b3,.slice p a c] 74) = W5 at *
    go_region_with (first
      | (go_at_call 68;(with_reducible refine (C1.out _).mono ?_);rintro e w6 ⟨v6,rfl,hg6,hb6⟩;obtain ⟨b6,p6,k6,c6,rfl⟩:=hg6.shape;have hb6q:=Below.trans (a:=W5) (B:=W5.heap.size) (by repeat' first | exact Below.refl _ _ | assumption | refine Below.setCell ?_ ?_ _ | refine Below.alloc ?_ ?_ _ | refine below_drewN ?_ | refine Below.drew ?_ | (simp;done) | (simp;omega)) (Below.mono hb6 (Below.size (B:=W5.heap.size) (w:=W5) (by repeat' first | exact Below.refl _ _ | assumption | refine Below.setCell ?_ ?_ _ | refine Below.alloc ?_ ?_ _ | refine below_drewN ?_ | refine Below.drew ?_ | (simp;done) | (simp;omega))));have x50:=cell_kept t50 hb6q;have x51:=cell_kept t51 hb6q;have hg16:=hg5.keep hb6q;have hm6:=Mg.keep hm5 hb6q)
      | (go_at_call 71;(with_reducible refine (CO.out _ _ _ hg16 hg6).mono ?_);rintro e w7 ⟨rfl,hb7⟩;have y50:=cell_kept x50 hb7;have y51:=cell_kept x51 hb7;have hb7q:=hb6q.trans (hb7.mono hb6q.size);have hm7:=Mg.keep hm6 hb7;have hl7:=hb5.trans (hb7q.mono hb5.size);have hs7:=hl7.size))
  all_goals go_wp2_with (go_at_call 152;(with_reducible refine (CL.out _ hm7).mono ?_);rintro e w8 ⟨rfl,hw8⟩;subst hw8)
  all_goals go_ret
  all_goals exact ⟨rfl,hl7⟩
end
section
open Go.RowKit
open Qd (lims)
theorem land_step (a b : Nat) : a &&& b = (a / 2 &&& b / 2) * 2 + if a % 2 + b % 2 = 2 then 1 else 0:=by
  have h1:=Nat.and_div_two (a:=a) (b:=b)
  have h2:=Nat.and_mod_two_eq_one (a:=a) (b:=b)
  split <;> omega
theorem lor_step (a b : Nat) : a ||| b = (a / 2 ||| b / 2) * 2 + if 0 < a % 2 + b % 2 then 1 else 0:=by
  have h1:=Nat.or_div_two (a:=a) (b:=b)
  have h2:=Nat.or_mod_two_eq_one (a:=a) (b:=b)
  split <;> omega
theorem xor_step (a b : Nat) : a ^^^ b = (a / 2 ^^^ b / 2) * 2 + if a % 2 ≠ b % 2 then 1 else 0:=by
  have h1:=Nat.xor_div_two (a:=a) (b:=b)
  have h2:=Nat.xor_mod_two_eq_one (a:=a) (b:=b)
  split <;> omega
def btOf (i x y : Nat) : Bool:=if i = 5 then decide (x + y = 2) else if i = 6 then decide (0 < x + y) else decide (x ≠ y)
theorem opN5 (a b : Nat) : opN 5 a b = a &&& b:=rfl
theorem opN6 (a b : Nat) : opN 6 a b = a ||| b:=rfl
theorem opN7 (a b : Nat) : opN 7 a b = a ^^^ b:=rfl
theorem bt5 (x y : Nat) : btOf 5 x y = decide (x + y = 2):=rfl
theorem bt6 (x y : Nat) : btOf 6 x y = decide (0 < x + y):=rfl
theorem bt7 (x y : Nat) : btOf 7 x y = decide (x ≠ y):=rfl
theorem opN_step {i : Nat} (hi : i = 5 ∨ i = 6 ∨ i = 7) (a b : Nat) : opN i a b = opN i (a / 2) (b / 2) * 2 + if btOf i (a % 2) (b % 2) = true then 1 else 0:=by
  rcases hi with rfl | rfl | rfl
  · rw [opN5,opN5,bt5,land_step a b];simp only [decide_eq_true_eq]
  · rw [opN6,opN6,bt6,lor_step a b];simp only [decide_eq_true_eq]
  · rw [opN7,opN7,bt7,xor_step a b];simp only [decide_eq_true_eq]
theorem opN_nil {i : Nat} (hi : i = 5 ∨ i = 6 ∨ i = 7) : opN i 0 0 = 0:=by
  rcases hi with rfl | rfl | rfl
  · rw [opN5];rfl
  · rw [opN6];rfl
  · rw [opN7];rfl
def fvB (H D i : Nat) : Nat:=if i < 2 then H + i else D + (i - 2)
structure Fv (w : World) (H D : Nat) (x : Nat->Nat) (v : Nat->Value) (W : World) : Prop where
  c0 : ∀ i,i < 4->W.cell? ⟨fvB H D i,0,none⟩ = some (.bool false)
  c1 : ∀ i,i < 4->W.cell? ⟨fvB H D i,1,none⟩ = some (v i)
  f : ∀ i k,i < 4->W.frozen? ⟨fvB H D i,k,none⟩ = false
  m : ∀ i,i < 4->Mags W (v i) (x i)
  r0 : W.cell? ⟨H + 2,0,none⟩ = some (.bool false)
  r1 : W.cell? ⟨H + 2,1,none⟩ = some (.slice none 0 0)
  q : ∀ k,W.frozen? ⟨H + 2,k,none⟩ = false
  low : Below w.heap.size w W
  above : w.heap.size <= H
  far : H + 2 < D
  size : D + 1 < W.heap.size
theorem fvB_lt {H D i : Nat} (hi : i < 4) (h : H + 2 < D) : fvB H D i <= D + 1:=by unfold fvB;split <;> omega
theorem fvB_ge {H D i : Nat} (h : H + 2 < D) : H <= fvB H D i:=by unfold fvB;split <;> omega
theorem fvB_ne {H D i j : Nat} (h : H + 2 < D) (hne : i ≠ j) : fvB H D i ≠ fvB H D j:=by unfold fvB;split <;> split <;> omega
theorem fvB_r {H D i : Nat} (h : H + 2 < D) : H + 2 ≠ fvB H D i:=by unfold fvB;split <;> omega
theorem Fv.keep {w W W' : World} {H D : Nat} {x : Nat->Nat} {v : Nat->Value} (h : Fv w H D x v W) (hb : Below W.heap.size W W') : Fv w H D x v W':=by
  obtain ⟨c0,c1,f,m,r0,r1,q,low,above,far,size⟩:=h
  exact { c0:=fun i hi=>cell_kept (c0 i hi) hb,c1:=fun i hi=>cell_kept (c1 i hi) hb,f:=fun i k hi=>frozen_kept (f i k hi) hb (by have:=fvB_lt hi far;simp;omega),m:=fun i hi=>(m i hi).keep hb,r0:=cell_kept r0 hb,r1:=cell_kept r1 hb,q:=fun k=>frozen_kept (q k) hb (by simp;omega),low:=low.trans (hb.mono low.size),above:=above,far:=far,size:=by have:=hb.size;omega }
theorem Fv.next {w W : World} {H D : Nat} {x : Nat->Nat} {v : Nat->Value} (h : Fv w H D x v W) (i n : Nat) (u : Value) (hi : i < 4) (hu : Mags W u n) {b : Nat} (hb : b = fvB H D i) :
    Fv w H D (fun j=>if j = i then n else x j) (fun j=>if j = i then u else v j) ((W.setCell ⟨b,0,none⟩ (.bool false)).setCell ⟨b,1,none⟩ u):=by
  obtain ⟨c0,c1,f,m,r0,r1,q,low,above,far,size⟩:=h
  have hr:=fvB_r (i:=i) far
  have hge:=fvB_ge (i:=i) far
  have e0:=c0 i hi
  have e1:=c1 i hi
  subst hb
  refine { c0:=fun j hj=>?_,c1:=fun j hj=>?_,f:=fun j k hj=>set_frozen (set_frozen (f j k hj)),m:=fun j hj=>?_,r0:=cell_set (cell_set r0 hr) hr,r1:=cell_set (cell_set r1 hr) hr,q:=fun k=>set_frozen (set_frozen (q k)),low:=(low.setCell (p:=⟨fvB H D i,0,none⟩) (by simp;omega) _).setCell (p:=⟨fvB H D i,1,none⟩) (by simp;omega) _,above:=above,far:=far,size:=by simpa using size }
  · by_cases hji : j = i
    · subst hji
      exact set_cell (World.cell?_setCell_same _ _ _ e0) (by omega)
    · exact cell_set (cell_set (c0 j hj) (fvB_ne far hji)) (fvB_ne far hji)
  · by_cases hji : j = i
    · subst hji
      rw [if_pos rfl]
      exact World.cell?_setCell_same _ _ _ (set_cell e1 (by omega))
    · rw [if_neg hji]
      exact cell_set (cell_set (c1 j hj) (fvB_ne far hji)) (fvB_ne far hji)
  · by_cases hji : j = i
    · subst hji
      rw [if_pos rfl,if_pos rfl]
      exact Mg.set2 hu e0 _ _
    · rw [if_neg hji,if_neg hji]
      exact Mg.set2 (m j hj) e0 _ _
end
section
open Go.RowKit
open Qd (lims)
structure Bwi (i A B : Nat) (x : Nat->Nat) : Prop where
  eq : x 2 + x 3 * opN i (x 0) (x 1) = opN i A B
  two : ∃ j,j <= 64/\x 3 = 2 ^ j/\x 0 < 2 ^ (64 - j)/\x 1 < 2 ^ (64 - j)
theorem opNb_lt {i A B : Nat} (hi : i = 5 ∨ i = 6 ∨ i = 7) (hA : A < 2 ^ 64) (hB : B < 2 ^ 64) : opN i A B < 2 ^ 64:=by
  rcases hi with rfl | rfl | rfl
  · rw [opN5];exact Nat.and_lt_two_pow _ hB
  · rw [opN6];exact Nat.or_lt_two_pow hA hB
  · rw [opN7];exact Nat.xor_lt_two_pow hA hB
theorem Bwi.next {i A B : Nat} (hi : i = 5 ∨ i = 6 ∨ i = 7) {x y : Nat->Nat} (h : Bwi i A B x) (hne : x 0 ≠ 0 ∨ x 1 ≠ 0)
    (h0 : y 0 = x 0 / 2) (h1 : y 1 = x 1 / 2) (h2 : y 2 = x 2 + if btOf i (x 0 % 2) (x 1 % 2) = true then x 3 else 0) (h3 : y 3 = x 3 + x 3) : Bwi i A B y:=by
  obtain ⟨eq,j,hj,hp,ha,hb⟩:=h
  have hs:=opN_step hi (x 0) (x 1)
  have hlt : j < 64:=by
    apply Nat.lt_of_le_of_ne hj
    intro e
    subst e
    rw [Nat.sub_self,Nat.pow_zero] at ha hb
    omega
  constructor
  · rw [h0,h1,h2,h3,<- eq,hs]
    generalize opN i (x 0 / 2) (x 1 / 2) = o
    rw [Nat.mul_add,<- Nat.two_mul,Nat.mul_assoc 2,Nat.mul_comm 2,Nat.mul_assoc]
    split
    · omega
    · omega
  · refine ⟨j + 1,by omega,by rw [h3,hp,Nat.pow_succ];omega,?_,?_⟩
    · rw [h0]
      have : 2 ^ (64 - j) = 2 ^ (64 - (j + 1)) * 2:=by rw [<- Nat.pow_succ];congr 1;omega
      omega
    · rw [h1]
      have : 2 ^ (64 - j) = 2 ^ (64 - (j + 1)) * 2:=by rw [<- Nat.pow_succ];congr 1;omega
      omega
theorem Bwi.fits {i A B : Nat} (hi : i = 5 ∨ i = 6 ∨ i = 7) (hA : A < 2 ^ 64) (hB : B < 2 ^ 64) {x : Nat->Nat} (h : Bwi i A B x) : ∀ k,k < 4->x k <= 2 ^ 64:=by
  obtain ⟨eq,j,hj,hp,ha,hb⟩:=h
  have hl:=opNb_lt hi hA hB
  have h1 : 2 ^ (64 - j) <= 2 ^ 64:=Nat.pow_le_pow_right (by omega) (by omega)
  have h2 : 2 ^ j <= 2 ^ 64:=Nat.pow_le_pow_right (by omega) (by omega)
  intro k hk
  match k,hk with
  | 0,_=>omega
  | 1,_=>omega
  | 2,_ =>
    generalize x 3 * opN i (x 0) (x 1) = m at eq
    omega
  | 3,_=>omega
theorem lsz_two {n : Nat} (h : n <= 2 ^ 64) : Qd.lsz n <= 5:=by
  refine (Qd.lsz_le_iff 5 _).2 ?_
  have h2 : Qd.bb ^ 5 = 100000000000000000000:=rfl
  have h3 : (2 : Nat) ^ 64 = 18446744073709551616:=rfl
  omega
theorem refPlusN (W : World) (v1 v2 : Value) (a b : Nat) (ha : a <= 2 ^ 64) (hb : b <= 2 ^ 64) (g1 : BigAt W v1 (a : Nat)) (g2 : BigAt W v2 (b : Nat)) :
    Calls Tryz.prog 80 #[v1,v2] W fun e w'=>∃ s p c,e = .returned (.agg #[.bool false,s])/\s = .slice p (Qd.lsz (a + b)) c/\Mags w' s (a + b)/\Below W.heap.size W w':=by
  have h1:=lsz_two ha
  have h2:=lsz_two hb
  refine (refPlus_any v1 v2 _ _ (by rw [abs_up];omega) (by rw [abs_up];omega) W g1 g2).mono ?_
  rintro e w' ⟨v,rfl,hg,hl⟩
  rw [show ((a : Nat) : Int) + ((b : Nat) : Int) = ((a + b : Nat) : Int) by omega] at hg
  obtain ⟨s,rfl,hm⟩:=big_nat_inv hg
  obtain ⟨p,c,rfl,_,_⟩:=hm.parts
  exact ⟨_,p,c,rfl,rfl,hm,hl⟩
theorem refHalf (W : World) (v1 v2 : Value) (a : Nat) (ha : a <= 2 ^ 64) (g1 : BigAt W v1 (a : Nat)) (g2 : BigAt W v2 2) :
    Calls Tryz.prog 91 #[v1,v2] W fun e w'=>∃ s p c r,e = .returned (.tuple #[.agg #[.bool false,s],r])/\s = .slice p (Qd.lsz (a / 2)) c/\Mags w' s (a / 2)/\Below W.heap.size W w':=by
  have h1:=lsz_two ha
  refine (refOver_any v1 v2 _ 2 (by omega) (by rw [abs_up];omega) (by have:=lsz_i64 (n:=2) (by omega) (by omega);omega) W g1 g2).mono ?_
  rintro e w' ⟨q,r,rfl,hg,_,hl⟩
  rw [show ((a : Nat) : Int) / 2 = ((a / 2 : Nat) : Int) by omega] at hg
  obtain ⟨s,rfl,hm⟩:=big_nat_inv hg
  obtain ⟨p,c,rfl,_,_⟩:=hm.parts
  exact ⟨_,p,c,r,rfl,rfl,hm,hl⟩
set_option maxHeartbeats 4000000 in
set_option maxRecDepth 100000 in
theorem refBitwise_any (i : Nat) (hi : i = 5 ∨ i = 6 ∨ i = 7) (x y : Value) (A B : Nat) (hA : A < 2 ^ 64) (hB : B < 2 ^ 64) (w : World) (hx : BigAt w x (A : Nat)) (hy : BigAt w y (B : Nat)) :
    Calls Tryz.prog 132 #[.int .i64 i,x,y] w fun e w'=>∃ v,e = .returned v/\BigAt w' v (opN i A B : Nat)/\Below w.heap.size w w':=by
  obtain ⟨s,rfl,hs⟩:=big_nat_inv hx
  obtain ⟨t,rfl,ht⟩:=big_nat_inv hy
  obtain ⟨p,c1,rfl,_,_⟩:=hs.parts
  obtain ⟨q,d1,rfl,_,_⟩:=ht.parts
  clear hx hy
  have C0:=Lib.hid (fun W=>refSmall_any 0 (by omega) (by omega) W)
  have C1:=Lib.hid (fun W=>refSmall_any 1 (by omega) (by omega) W)
  have C2:=Lib.hid (fun W=>refSmall_any 2 (by omega) (by omega) W)
  have hS:=Lib.hid hs;have hT:=Lib.hid ht
  clear hs ht
  go_enter Tryz.func132,Tryz.ntmps132
  go_wp2_with (first
    | (go_at_call 68;(with_reducible refine (C0.out _).mono ?_);rintro e w1 ⟨v1,rfl,hg1,hb1⟩;obtain ⟨u1,rfl,hu1⟩:=big_nat_inv (k:=0) hg1;obtain ⟨p1,e1,rfl,_,_⟩:=hu1.parts)
    | (go_at_call 68;(with_reducible refine (C1.out _).mono ?_);rintro e w2 ⟨v2,rfl,hg2,hb2⟩;obtain ⟨u2,rfl,hu2⟩:=big_nat_inv (k:=1) hg2;obtain ⟨p2,e2,rfl,_,_⟩:=hu2.parts))
  obtain ⟨⟨k00,k01⟩,⟨k10,k11⟩,⟨k20,k21⟩,kf0,kf1⟩:=cells3 w (.bool false) (.slice p (Qd.lsz A) c1) (.bool false) (.slice q (Qd.lsz B) d1) (.bool false) (.slice none 0 0) 74 74 74
  obtain ⟨⟨l00,l01⟩,⟨l10,l11⟩,lf0,lf1⟩:=cells2 w2 (.bool false) (.slice p1 (Qd.lsz 0) e1) (.bool false) (.slice p2 (Qd.lsz 1) e2) 74 74
  have fz : ∀ (b k : Nat),w.heap.size <= b->b < w.heap.size + 3->(((w.alloc (Obj.cells #[.bool false,.slice p (Qd.lsz A) c1] 74)).alloc (Obj.cells #[.bool false,.slice q (Qd.lsz B) d1] 74)).alloc (Obj.cells #[.bool false,.slice none 0 0] 74)).frozen? ⟨b,k,none⟩ = false:=by
    intro b k h1 h2
    rcases (show b = w.heap.size ∨ b = w.heap.size + 1 ∨ b = w.heap.size + 1 + 1 by omega) with rfl | rfl | rfl <;> go_simp
  have fy : ∀ (b k : Nat),w2.heap.size <= b->b < w2.heap.size + 2->((w2.alloc (Obj.cells #[.bool false,.slice p1 (Qd.lsz 0) e1] 74)).alloc (Obj.cells #[.bool false,.slice p2 (Qd.lsz 1) e2] 74)).frozen? ⟨b,k,none⟩ = false:=by
    intro b k h1 h2
    rcases (show b = w2.heap.size ∨ b = w2.heap.size + 1 by omega) with rfl | rfl <;> go_simp
  have hz3 : (((w.alloc (Obj.cells #[.bool false,.slice p (Qd.lsz A) c1] 74)).alloc (Obj.cells #[.bool false,.slice q (Qd.lsz B) d1] 74)).alloc (Obj.cells #[.bool false,.slice none 0 0] 74)).heap.size = w.heap.size + 1 + 1 + 1:=by simp
  have hl3 : Below w.heap.size w (((w.alloc (Obj.cells #[.bool false,.slice p (Qd.lsz A) c1] 74)).alloc (Obj.cells #[.bool false,.slice q (Qd.lsz B) d1] 74)).alloc (Obj.cells #[.bool false,.slice none 0 0] 74)):=(by repeat' first | exact Below.refl _ _ | assumption | refine Below.setCell ?_ ?_ _ | refine Below.alloc ?_ ?_ _ | refine below_drewN ?_ | refine Below.drew ?_ | (simp;done) | (simp;omega))
  have hb4 : Below w2.heap.size w2 ((w2.alloc (Obj.cells #[.bool false,.slice p1 (Qd.lsz 0) e1] 74)).alloc (Obj.cells #[.bool false,.slice p2 (Qd.lsz 1) e2] 74)):=(by repeat' first | exact Below.refl _ _ | assumption | refine Below.setCell ?_ ?_ _ | refine Below.alloc ?_ ?_ _ | refine below_drewN ?_ | refine Below.drew ?_ | (simp;done) | (simp;omega))
  have hz4 : ((w2.alloc (Obj.cells #[.bool false,.slice p1 (Qd.lsz 0) e1] 74)).alloc (Obj.cells #[.bool false,.slice p2 (Qd.lsz 1) e2] 74)).heap.size = w2.heap.size + 1 + 1:=by simp
  generalize (((w.alloc (Obj.cells #[.bool false,.slice p (Qd.lsz A) c1] 74)).alloc (Obj.cells #[.bool false,.slice q (Qd.lsz B) d1] 74)).alloc (Obj.cells #[.bool false,.slice none 0 0] 74)) = W3 at *
  generalize ((w2.alloc (Obj.cells #[.bool false,.slice p1 (Qd.lsz 0) e1] 74)).alloc (Obj.cells #[.bool false,.slice p2 (Qd.lsz 1) e2] 74)) = W0 at *
  have hb13:=hb1.trans (hb2.mono hb1.size)
  have hbq:=hb13.trans (hb4.mono hb13.size)
  have hs13:=hb13.size
  have hF : Fv w w.heap.size w2.heap.size (fun k=>if k = 0 then A else if k = 1 then B else if k = 2 then 0 else 1) (fun k=>if k = 0 then .slice p (Qd.lsz A) c1 else if k = 1 then .slice q (Qd.lsz B) d1 else if k = 2 then .slice p1 (Qd.lsz 0) e1 else .slice p2 (Qd.lsz 1) e2) W0:=by
    refine { c0:=fun i hi=>?_,c1:=fun i hi=>?_,f:=fun i k hi=>?_,m:=fun i hi=>?_,r0:=cell_kept k20 hbq,r1:=cell_kept k21 hbq,q:=fun k=>frozen_kept (fz _ k (by omega) (by omega)) hbq (by simp;omega),low:=hl3.trans (hbq.mono hl3.size),above:=Nat.le_refl _,far:=by omega,size:=by omega }
    · match i,hi with
      | 0,_=>exact cell_kept k00 hbq
      | 1,_=>exact cell_kept k10 hbq
      | 2,_=>exact l00
      | 3,_=>exact l10
    · match i,hi with
      | 0,_=>exact cell_kept k01 hbq
      | 1,_=>exact cell_kept k11 hbq
      | 2,_=>exact l01
      | 3,_=>exact l11
    · match i,hi with
      | 0,_=>exact frozen_kept (fz w.heap.size k (by omega) (by omega)) hbq (by show w.heap.size < _;omega)
      | 1,_=>exact frozen_kept (fz (w.heap.size + 1) k (by omega) (by omega)) hbq (by show w.heap.size + 1 < _;omega)
      | 2,_=>exact fy w2.heap.size k (Nat.le_refl _) (by omega)
      | 3,_=>exact fy (w2.heap.size + 1) k (by omega) (by omega)
    · match i,hi with
      | 0,_=>exact (hS.out.keep hl3).keep hbq
      | 1,_=>exact (hT.out.keep hl3).keep hbq
      | 2,_=>exact (hu1.keep hb2).keep hb4
      | 3,_=>exact hu2.keep hb4
  have HF:=Lib.hid hF
  have HW : Hid (Bwi i A B (fun k=>if k = 0 then A else if k = 1 then B else if k = 2 then 0 else 1)):=Lib.hid ⟨by show 0 + 1 * opN i A B = _;omega,0,by omega,rfl,hA,hB⟩
  obtain ⟨D,hD⟩ : ∃ D,w2.heap.size = D:=⟨_,rfl⟩
  rw [hD] at HF
  simp only [hD]
  clear hF hbq hb13 hs13 hz4 hb4 hl3 hz3 fy fz lf0 lf1 l00 l01 l10 l11 kf0 kf1 k00 k01 k10 k11 k20 k21 hb1 hb2 hu1 hg1 hu2 hg2 hS hT hD
  go_loopg [9,10] (A + B) (fun g _ _ wr=>∃ (x : Nat->Nat) (v : Nat->Value),g = x 0 + x 1/\Fv w w.heap.size D x v wr/\Bwi i A B x)
  case atStart=>exact ⟨_,_,rfl,HF.out,HW.out⟩
  case round =>
    clear HF HW
    obtain ⟨x,v,rfl,hF,hW⟩:=hrel
    have HF:=Lib.hid hF
    have HW:=Lib.hid hW
    obtain ⟨p0,c0,ev0,_,_⟩:=(hF.m 0 (by omega)).parts
    obtain ⟨p1,c1,ev1,_,_⟩:=(hF.m 1 (by omega)).parts
    obtain ⟨p2,c2,ev2,_,_⟩:=(hF.m 2 (by omega)).parts
    obtain ⟨p3,c3,ev3,_,_⟩:=(hF.m 3 (by omega)).parts
    have a0 : wr.cell? ⟨w.heap.size,0,none⟩ = _:=hF.c0 0 (by omega)
    have a1 : wr.cell? ⟨w.heap.size,1,none⟩ = _:=hF.c1 0 (by omega)
    have b0 : wr.cell? ⟨w.heap.size + 1,0,none⟩ = _:=hF.c0 1 (by omega)
    have b1 : wr.cell? ⟨w.heap.size + 1,1,none⟩ = _:=hF.c1 1 (by omega)
    have o0 : wr.cell? ⟨D,0,none⟩ = _:=hF.c0 2 (by omega)
    have o1 : wr.cell? ⟨D,1,none⟩ = _:=hF.c1 2 (by omega)
    have l0 : wr.cell? ⟨D + 1,0,none⟩ = _:=hF.c0 3 (by omega)
    have l1 : wr.cell? ⟨D + 1,1,none⟩ = _:=hF.c1 3 (by omega)
    have r0:=hF.r0
    have r1:=hF.r1
    have q0:=hF.q 0
    have q1:=hF.q 1
    have hsz:=hF.size
    have hfar:=hF.far
    rw [ev0] at a1
    rw [ev1] at b1
    rw [ev2] at o1
    rw [ev3] at l1
    by_cases hne : x 0 = 0/\x 1 = 0
    · have hk0 : Qd.lsz (x 0) = 0:=by rw [hne.1];exact Qd.lsz_zero
      have hk1 : Qd.lsz (x 1) = 0:=by rw [hne.2];exact Qd.lsz_zero
      have hv : x 2 = opN i A B:=by
        have:=hW.eq
        rw [hne.1,hne.2,opN_nil hi] at this
        omega
      have hm:=hF.m 2 (by omega)
      rw [hv,ev2] at hm
      have hl:=hF.low
      rw [hk0] at a1
      rw [hk1] at b1
      have HM:=Lib.hid hm;have HL:=Lib.hid hl;have R0:=Lib.hid r0;have R1:=Lib.hid r1
      clear hm hl hv hk0 hk1 hne hW hF ev0 ev1 ev2 ev3
      go_wp2
      refine ret74 Tryz.results132 _ rfl (.bool false) (.slice p2 (Qd.lsz (x 2)) c2) (set_cell (World.cell?_setCell_same _ _ _ R0.out) (by omega)) (World.cell?_setCell_same _ _ _ (set_cell R1.out (by omega))) rfl ?_
      exact ⟨_,rfl,big_nat (Mg.set2 HM.out R0.out _ _),(HL.out.setCell (p:=⟨w.heap.size + 2,0,none⟩) (by simp) _).setCell (p:=⟨w.heap.size + 2,1,none⟩) (by simp) _⟩
    · have hfit:=hW.fits hi hA hB
      have CLa : Hid (∀ W,Mags W (.slice p0 (Qd.lsz (x 0)) c0) (x 0)->Calls Tryz.prog 152 #[.slice p0 (Qd.lsz (x 0)) c0,.int .i64 0] W fun e w'=>e = .returned (.int .i64 ((Qd.lim (x 0) 0 : Nat) : Int))/\w' = W):=Lib.hid (fun W h=>by have:=refLimb_any _ (lims (x 0) (Qd.lsz (x 0))) 0 (by rw [Qd.lims_length];have:=lsz_two (hfit 0 (by omega));omega) (by omega) W h;rw [Qd.lims_getD _ _ _ (Qd.lsz_lt _)] at this;exact this)
      have CLb : Hid (∀ W,Mags W (.slice p1 (Qd.lsz (x 1)) c1) (x 1)->Calls Tryz.prog 152 #[.slice p1 (Qd.lsz (x 1)) c1,.int .i64 0] W fun e w'=>e = .returned (.int .i64 ((Qd.lim (x 1) 0 : Nat) : Int))/\w' = W):=Lib.hid (fun W h=>by have:=refLimb_any _ (lims (x 1) (Qd.lsz (x 1))) 0 (by rw [Qd.lims_length];have:=lsz_two (hfit 1 (by omega));omega) (by omega) W h;rw [Qd.lims_getD _ _ _ (Qd.lsz_lt _)] at this;exact this)
      have hma:=hF.m 0 (by omega)
      have hmb:=hF.m 1 (by omega)
      rw [ev0] at hma
      rw [ev1] at hmb
      have hla : (Qd.lim (x 0) 0) % 2 = x 0 % 2:=by unfold Qd.lim Qd.bb;simp only [Nat.pow_zero,Nat.div_one];omega
      have hlb : (Qd.lim (x 1) 0) % 2 = x 1 % 2:=by unfold Qd.lim Qd.bb;simp only [Nat.pow_zero,Nat.div_one];omega
      have hlt1:=Qd.lim_lt' (x 0) 0
      have hlt2:=Qd.lim_lt' (x 1) 0
      generalize Qd.lim (x 0) 0 = la at *
      generalize Qd.lim (x 1) 0 = lb at *
      have HMA:=Lib.hid hma;have HMB:=Lib.hid hmb
      have F0:=Lib.hid (hfit 0 (by omega));have F1:=Lib.hid (hfit 1 (by omega));have F2:=Lib.hid (hfit 2 (by omega));have F3:=Lib.hid (hfit 3 (by omega))
      have HNE:=Lib.hid hne
      have CA:=Lib.hid (fun W (hb : Below wr.heap.size wr W)=>CLa.out W (HMA.out.keep hb))
      have CB:=Lib.hid (fun W (hb : Below wr.heap.size wr W)=>CLb.out W (HMB.out.keep hb))
      have HA0:=Lib.hid hla;have HB0:=Lib.hid hlb
      clear hne hma hmb hfit hW hF CLa CLb HMA HMB hla hlb o0 o1 l0 l1 r0 r1 q0 q1 ev0 ev1 ev2 ev3 hsz hfar
      go_upto_region 2 with fail
      go_cut [22] (fun s22 wx=>s22 = .bool true/\wr = wx)
      case first =>
        by_cases h0 : x 0 = 0
        · have d0 : decide ((0 : Int) < ((Qd.lsz (x 0) : Nat) : Int)) = false:=by rw [h0,Qd.lsz_zero];rfl
          have d0' : decide (0 < Qd.lsz (x 0)) = false:=by rw [h0,Qd.lsz_zero];rfl
          have h1 : Qd.lsz (x 1) ≠ 0:=fun e=>HNE.out ⟨h0,Qd.lsz_eq_zero.1 e⟩
          have d1 : decide ((0 : Int) < ((Qd.lsz (x 1) : Nat) : Int)) = true:=by simp;omega
          have d1' : decide (0 < Qd.lsz (x 1)) = true:=by simpa using d1
          generalize Qd.lsz (x 0) = n0 at *
          generalize Qd.lsz (x 1) = n1 at *
          clear h0 h1
          go_wp2_with fail
          go_meet
          exact ⟨rfl,rfl⟩
        · have h1 : Qd.lsz (x 0) ≠ 0:=fun e=>h0 (Qd.lsz_eq_zero.1 e)
          have d0 : decide ((0 : Int) < ((Qd.lsz (x 0) : Nat) : Int)) = true:=by simp;omega
          have d0' : decide (0 < Qd.lsz (x 0)) = true:=by simpa using d0
          generalize Qd.lsz (x 0) = n0 at *
          clear h0 h1
          go_wp2_with fail
          go_meet
          exact ⟨rfl,rfl⟩
      case rest =>
      obtain ⟨rfl,rfl⟩:=hcut
      go_upto_region 3 with fail
      go_quiet (first | (go_at_call 152;(with_reducible refine Calls.quiet_of_same (CA.out _ ?_));first | exact Below.refl _ _ | exact below_drewN (Below.refl _ _)) | (go_at_call 152;(with_reducible refine Calls.quiet_of_same (CB.out _ ?_));first | exact Below.refl _ _ | exact below_drewN (Below.refl _ _)))
      go_upto_region 4 with fail
      have HF1 : Hid (Fv w w.heap.size D x v (wr.drewN nq)):=Lib.hid (HF.out.keep (below_drewN (w:=wr) (n:=nq) (Below.refl _ _)))
      clear HF CA CB a0 a1 b0 b1
      obtain ⟨bt,hbt⟩ : ∃ b,btOf i (x 0 % 2) (x 1 % 2) = b:=⟨_,rfl⟩
      have HBT:=Lib.hid hbt
      clear hbt
      generalize wr.drewN nq = W1 at *
      go_cut [57] (fun s57 wx=>s57 = .bool bt/\W1 = wx)
      case first =>
        have hx2 : (la : Int) % 2 = ((x 0 % 2 : Nat) : Int):=by have:=HA0.out;omega
        have hy2 : (lb : Int) % 2 = ((x 1 % 2 : Nat) : Int):=by have:=HB0.out;omega
        have hb2:=HBT.out
        rcases (show x 0 % 2 = 0 ∨ x 0 % 2 = 1 by omega) with p | p <;> rcases (show x 1 % 2 = 0 ∨ x 1 % 2 = 1 by omega) with q | q <;> rcases hi with rfl | rfl | rfl <;> rw [p,q] at hb2 <;> rw [p] at hx2 <;> rw [q] at hy2 <;> clear p q HBT <;> (first | rw [bt5] at hb2 | rw [bt6] at hb2 | rw [bt7] at hb2) <;> simp at hb2 <;> subst hb2 <;> (go_wp2_with fail;go_meet;exact ⟨rfl,rfl⟩)
      case rest =>
      obtain ⟨rfl,rfl⟩:=hcut
      go_upto_if 57 with fail
      go_cut [] (fun wx=>∃ (y : Nat->Nat) (z : Nat->Value),Fv w w.heap.size D y z wx/\y 0 = x 0/\y 1 = x 1/\y 2 = (x 2 + if bt = true then x 3 else 0)/\y 3 = x 3)
      case first =>
        cases bt
        · go_wp2_with fail
          go_meet
          exact ⟨x,v,HF1.out,rfl,rfl,by simp,rfl⟩
        · have hF:=HF1.out
          generalize W1 = wc at *
          obtain ⟨p2,c2,ev2,_,_⟩:=(hF.m 2 (by omega)).parts
          have a2 : wc.cell? ⟨D,0,none⟩ = some (.bool false):=hF.c0 2 (by omega)
          have b2 : wc.cell? ⟨D,1,none⟩ = some (v 2):=hF.c1 2 (by omega)
          have f2 : wc.frozen? ⟨D,0,none⟩ = false:=hF.f 2 0 (by omega)
          have g2 : wc.frozen? ⟨D,1,none⟩ = false:=hF.f 2 1 (by omega)
          have m2 : Mags wc (v 2) (_):=hF.m 2 (by omega)
          rw [ev2] at b2 m2
          obtain ⟨p3,c3,ev3,_,_⟩:=(hF.m 3 (by omega)).parts
          have a3 : wc.cell? ⟨D + 1,0,none⟩ = some (.bool false):=hF.c0 3 (by omega)
          have b3 : wc.cell? ⟨D + 1,1,none⟩ = some (v 3):=hF.c1 3 (by omega)
          have f3 : wc.frozen? ⟨D + 1,0,none⟩ = false:=hF.f 3 0 (by omega)
          have g3 : wc.frozen? ⟨D + 1,1,none⟩ = false:=hF.f 3 1 (by omega)
          have m3 : Mags wc (v 3) (_):=hF.m 3 (by omega)
          rw [ev3] at b3 m3
          have C5:=Lib.hid (refPlusN wc _ _ (x 2) (x 3) F2.out F3.out (big_nat m2) (big_nat m3))
          clear ev2 ev3 m2 m3 hF
          go_wp2_with (first | (go_at_call 80;(with_reducible refine C5.out.mono ?_);rintro e w5 ⟨s5,p5,c5,rfl,rfl,hm5,hb5⟩;have hF5:=(HF1.out.keep hb5).next 2 _ _ (by omega) hm5 (b:=D) rfl;have j0:=cell_kept a2 hb5;have j1:=cell_kept b2 hb5;have i0:=frozen_kept f2 hb5 (by have:=HF1.out.size;simp;omega);have i1:=frozen_kept g2 hb5 (by have:=HF1.out.size;simp;omega);have HF5:=Lib.hid hF5;clear hF5 hb5 hm5))
          go_meet
          exact ⟨_,_,HF5.out,rfl,rfl,by simp,rfl⟩
      case rest =>
      obtain ⟨y,z,hF,E0,E1,E2,E3⟩:=hcut
      have K0:=Lib.hid E0;have K1:=Lib.hid E1;have K2:=Lib.hid E2;have K3:=Lib.hid E3
      clear E0 E1 E2 E3 HF1
      have HF2:=Lib.hid hF
      go_upto_region 6 with fail
      go_cut [] (fun wx=>∃ (y : Nat->Nat) (z : Nat->Value),Fv w w.heap.size D y z wx/\y 0 = x 0/\y 1 = x 1/\y 2 = (x 2 + if bt = true then x 3 else 0)/\y 3 = x 3 + x 3)
      case first =>
        obtain ⟨p3,c3,ev3,_,_⟩:=(hF.m 3 (by omega)).parts
        have a3 : wc.cell? ⟨D + 1,0,none⟩ = some (.bool false):=hF.c0 3 (by omega)
        have b3 : wc.cell? ⟨D + 1,1,none⟩ = some (z 3):=hF.c1 3 (by omega)
        have f3 : wc.frozen? ⟨D + 1,0,none⟩ = false:=hF.f 3 0 (by omega)
        have g3 : wc.frozen? ⟨D + 1,1,none⟩ = false:=hF.f 3 1 (by omega)
        have m3 : Mags wc (z 3) (_):=hF.m 3 (by omega)
        rw [ev3] at b3 m3
        have C6:=Lib.hid (refPlusN wc _ _ (y 3) (y 3) (by rw [K3.out];exact F3.out) (by rw [K3.out];exact F3.out) (big_nat m3) (big_nat m3))
        clear ev3 m3 hF
        go_wp2_with (first | (go_at_call 80;(with_reducible refine C6.out.mono ?_);rintro e w5 ⟨s5,p5,c5,rfl,rfl,hm5,hb5⟩;have hF5:=(HF2.out.keep hb5).next 3 _ _ (by omega) hm5 (b:=D + 1) rfl;have j0:=cell_kept a3 hb5;have j1:=cell_kept b3 hb5;have i0:=frozen_kept f3 hb5 (by have:=HF2.out.size;simp;omega);have i1:=frozen_kept g3 hb5 (by have:=HF2.out.size;simp;omega);have HF5:=Lib.hid hF5;clear hF5 hb5 hm5))
        go_meet
        exact ⟨_,_,HF5.out,K0.out,K1.out,K2.out,by show y 3 + y 3 = _;rw [K3.out]⟩
      case rest =>
      clear K0 K1 K2 K3 HF2 hF
      clear y z
      obtain ⟨y,z,hF,E0,E1,E2,E3⟩:=hcut
      have K0:=Lib.hid E0;have K1:=Lib.hid E1;have K2:=Lib.hid E2;have K3:=Lib.hid E3
      clear E0 E1 E2 E3
      have HF3:=Lib.hid hF
      go_upto_region 7 with fail
      go_cut [] (fun wx=>∃ (y : Nat->Nat) (z : Nat->Value),Fv w w.heap.size D y z wx/\y 0 = x 0 / 2/\y 1 = x 1/\y 2 = (x 2 + if bt = true then x 3 else 0)/\y 3 = x 3 + x 3)
      case first =>
        obtain ⟨p0,c0,ev0,_,_⟩:=(hF.m 0 (by omega)).parts
        have a0 : wc.cell? ⟨w.heap.size,0,none⟩ = some (.bool false):=hF.c0 0 (by omega)
        have b0 : wc.cell? ⟨w.heap.size,1,none⟩ = some (z 0):=hF.c1 0 (by omega)
        have f0 : wc.frozen? ⟨w.heap.size,0,none⟩ = false:=hF.f 0 0 (by omega)
        have g0 : wc.frozen? ⟨w.heap.size,1,none⟩ = false:=hF.f 0 1 (by omega)
        have m0 : Mags wc (z 0) (_):=hF.m 0 (by omega)
        rw [ev0] at b0 m0
        have hsz:=HF3.out.size;have hfar:=HF3.out.far
        have GM:=Lib.hid m0
        clear ev0 m0 hF
        go_region_with (first
          | (go_at_call 68;(with_reducible refine (C2.out _).mono ?_);rintro e w9 ⟨v9,rfl,hg9,hb9⟩;obtain ⟨b9,p9,k9,c9,rfl⟩:=hg9.shape;have hb9q:=Below.trans (a:=wc) (B:=wc.heap.size) (by repeat' first | exact Below.refl _ _ | assumption | refine Below.setCell ?_ ?_ _ | refine Below.alloc ?_ ?_ _ | refine below_drewN ?_ | refine Below.drew ?_ | (simp;done) | (simp;omega)) (Below.mono hb9 (Below.size (B:=wc.heap.size) (w:=wc) (by repeat' first | exact Below.refl _ _ | assumption | refine Below.setCell ?_ ?_ _ | refine Below.alloc ?_ ?_ _ | refine below_drewN ?_ | refine Below.drew ?_ | (simp;done) | (simp;omega))));have j0:=cell_kept a0 hb9q;have j1:=cell_kept b0 hb9q;have i0:=frozen_kept f0 hb9q (by simp;omega);have i1:=frozen_kept g0 hb9q (by simp;omega);have hm9:=GM.out.keep hb9q)
          | (go_at_call 91;(with_reducible refine (refHalf _ _ _ (y 0) (by rw [K0.out];exact F0.out) (big_nat hm9) hg9).mono ?_);rintro e w10 ⟨s10,p10,c10,v11,rfl,rfl,hm10,hb10⟩;have n0:=cell_kept j0 hb10;have n1:=cell_kept j1 hb10;have t0:=frozen_kept i0 hb10 (by have:=hb9q.size;simp;omega);have t1:=frozen_kept i1 hb10 (by have:=hb9q.size;simp;omega);have hb10q:=hb9q.trans (hb10.mono hb9q.size)))
        all_goals go_wp2_with fail
        all_goals go_meet
        all_goals exact ⟨_,_,((HF3.out.keep hb10q).next 0 _ _ (by omega) hm10 (b:=w.heap.size) rfl),by show y 0 / 2 = _;rw [K0.out],K1.out,K2.out,K3.out⟩
      case rest =>
      clear K0 K1 K2 K3 HF3 hF
      clear y z
      obtain ⟨y,z,hF,E0,E1,E2,E3⟩:=hcut
      have K0:=Lib.hid E0;have K1:=Lib.hid E1;have K2:=Lib.hid E2;have K3:=Lib.hid E3
      clear E0 E1 E2 E3
      have HF4:=Lib.hid hF
      go_upto_region 8 with fail
      obtain ⟨p1,c1,ev1,_,_⟩:=(hF.m 1 (by omega)).parts
      have a1 : wc.cell? ⟨w.heap.size + 1,0,none⟩ = some (.bool false):=hF.c0 1 (by omega)
      have b1 : wc.cell? ⟨w.heap.size + 1,1,none⟩ = some (z 1):=hF.c1 1 (by omega)
      have f1 : wc.frozen? ⟨w.heap.size + 1,0,none⟩ = false:=hF.f 1 0 (by omega)
      have g1 : wc.frozen? ⟨w.heap.size + 1,1,none⟩ = false:=hF.f 1 1 (by omega)
      have m1 : Mags wc (z 1) (_):=hF.m 1 (by omega)
      rw [ev1] at b1 m1
      have hsz:=HF4.out.size;have hfar:=HF4.out.far
      have GM:=Lib.hid m1
      clear ev1 m1 hF
      go_region_with (first
        | (go_at_call 68;(with_reducible refine (C2.out _).mono ?_);rintro e w9 ⟨v9,rfl,hg9,hb9⟩;obtain ⟨b9,p9,k9,c9,rfl⟩:=hg9.shape;have hb9q:=Below.trans (a:=wc) (B:=wc.heap.size) (by repeat' first | exact Below.refl _ _ | assumption | refine Below.setCell ?_ ?_ _ | refine Below.alloc ?_ ?_ _ | refine below_drewN ?_ | refine Below.drew ?_ | (simp;done) | (simp;omega)) (Below.mono hb9 (Below.size (B:=wc.heap.size) (w:=wc) (by repeat' first | exact Below.refl _ _ | assumption | refine Below.setCell ?_ ?_ _ | refine Below.alloc ?_ ?_ _ | refine below_drewN ?_ | refine Below.drew ?_ | (simp;done) | (simp;omega))));have j0:=cell_kept a1 hb9q;have j1:=cell_kept b1 hb9q;have i0:=frozen_kept f1 hb9q (by simp;omega);have i1:=frozen_kept g1 hb9q (by simp;omega);have hm9:=GM.out.keep hb9q)
        | (go_at_call 91;(with_reducible refine (refHalf _ _ _ (y 1) (by rw [K1.out];exact F1.out) (big_nat hm9) hg9).mono ?_);rintro e w10 ⟨s10,p10,c10,v11,rfl,rfl,hm10,hb10⟩;have n0:=cell_kept j0 hb10;have n1:=cell_kept j1 hb10;have t0:=frozen_kept i0 hb10 (by have:=hb9q.size;simp;omega);have t1:=frozen_kept i1 hb10 (by have:=hb9q.size;simp;omega);have hb10q:=hb9q.trans (hb10.mono hb9q.size)))
      all_goals go_wp2_with fail
      all_goals (go_roundg (x 0 / 2 + x 1 / 2);(case measure=>have:=HNE.out;omega);(case rel=>exact ⟨_,_,by show _ = y 0 + y 1 / 2;rw [K0.out,K1.out],((HF4.out.keep hb10q).next 1 _ _ (by omega) hm10 (b:=w.heap.size + 1) rfl),HW.out.next hi (by have:=HNE.out;omega) K0.out (by show y 1 / 2 = _;rw [K1.out]) (by show y 2 = _;rw [K2.out,HBT.out]) K3.out⟩))
end
end Go.Proofs.YtpbegoflpfdajaaGreatDoor
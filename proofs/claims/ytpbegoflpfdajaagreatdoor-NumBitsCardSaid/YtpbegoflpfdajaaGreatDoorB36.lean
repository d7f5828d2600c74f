/- WHAT IS PROVED: contracts of functions of the numbers package and laws for them, used by the last text of this claim. CONDITIONS: stated at each theorem. -/
import Derived.Deep.RegionHeld3
import Derived.Test.YtpbegoflpfdajaaGreatDoorB35
namespace Go.Proofs.YtpbegoflpfdajaaGreatDoor
section
open Go.RowKit
open Qd (lims)
theorem frozen_kept {w w' : World} {p : Addr} {b : Bool} (h : w.frozen? p = b) (hb : Below w.heap.size w w') (hp : p.block < w.heap.size) : w'.frozen? p = b:=(hb.frozen hp).trans h
theorem cell_set {w : World} {p a : Addr} {u v : Value} (h : w.cell? p = some v) (hne : p.block ≠ a.block) : (w.setCell a u).cell? p = some v:=(World.cell?_of_block (w:=w) (Below.heap_setCell w a u p.block hne)).trans h
theorem cell_kept {w w' : World} {p : Addr} {v : Value} (h : w.cell? p = some v) (hb : Below w.heap.size w w') : w'.cell? p = some v:=cell_keep h hb
theorem cells3 (w : World) (x0 x1 y0 y1 z0 z1 : Value) (t1 t2 t3 : TypeId) : ((((w.alloc (.cells #[x0,x1] t1)).alloc (.cells #[y0,y1] t2)).alloc (.cells #[z0,z1] t3)).cell? ⟨w.heap.size,0,none⟩ = some x0/\(((w.alloc (.cells #[x0,x1] t1)).alloc (.cells #[y0,y1] t2)).alloc (.cells #[z0,z1] t3)).cell? ⟨w.heap.size,1,none⟩ = some x1) /\
    ((((w.alloc (.cells #[x0,x1] t1)).alloc (.cells #[y0,y1] t2)).alloc (.cells #[z0,z1] t3)).cell? ⟨w.heap.size + 1,0,none⟩ = some y0/\(((w.alloc (.cells #[x0,x1] t1)).alloc (.cells #[y0,y1] t2)).alloc (.cells #[z0,z1] t3)).cell? ⟨w.heap.size + 1,1,none⟩ = some y1) /\
    ((((w.alloc (.cells #[x0,x1] t1)).alloc (.cells #[y0,y1] t2)).alloc (.cells #[z0,z1] t3)).cell? ⟨w.heap.size + 1 + 1,0,none⟩ = some z0/\(((w.alloc (.cells #[x0,x1] t1)).alloc (.cells #[y0,y1] t2)).alloc (.cells #[z0,z1] t3)).cell? ⟨w.heap.size + 1 + 1,1,none⟩ = some z1) /\
    ((((w.alloc (.cells #[x0,x1] t1)).alloc (.cells #[y0,y1] t2)).alloc (.cells #[z0,z1] t3)).frozen? ⟨w.heap.size + 1 + 1,0,none⟩ = false/\(((w.alloc (.cells #[x0,x1] t1)).alloc (.cells #[y0,y1] t2)).alloc (.cells #[z0,z1] t3)).frozen? ⟨w.heap.size + 1 + 1,1,none⟩ = false):=by
  refine ⟨⟨?_,?_⟩,⟨?_,?_⟩,⟨?_,?_⟩,?_,?_⟩ <;> go_simp
theorem Mg.set2 {w : World} {v : Value} {l : List Nat} {b : Nat} {x : Bool} (h : Mg w v l) (hc : w.cell? ⟨b,0,none⟩ = some (.bool x)) (u0 u1 : Value) : Mg ((w.setCell ⟨b,0,none⟩ u0).setCell ⟨b,1,none⟩ u1) v l:=by
  obtain ⟨p,c,rfl,h0,h1⟩:=h
  refine ⟨p,c,rfl,h0,fun hl=>?_⟩
  obtain ⟨g,rfl,hg,hx⟩:=h1 hl
  have hpos : 0 < l.length:=by cases l with
    | nil=>exact absurd rfl hl
    | cons a t=>simp
  have hne : g ≠ b:=by
    intro e;subst e
    have:=hx 0 hpos
    rw [hc] at this
    injection this with this
    injection this
  exact ⟨g,rfl,by simpa using hg,fun i hi=>cell_set (cell_set (hx i hi) hne) hne⟩
set_option maxHeartbeats 4000000 in
set_option maxRecDepth 100000 in
theorem refPlus_same (b : Bool) (s t : Value) (m n : Nat) (h1 : Qd.lsz m <= 10000) (h2 : Qd.lsz n <= 10000) (w : World) (hs : Mags w s m) (ht : Mags w t n) :
    Calls Tryz.prog 80 #[.agg #[.bool b,s],.agg #[.bool b,t]] w fun e w'=>∃ v,e = .returned (.agg #[.bool (b && !decide (m + n = 0)),v])/\Mags w' v (m + n)/\Below w.heap.size w w':=by
  have hlt : Qd.lsz (m + n) <= 10001:=Qd.lsz_add_le (k:=10000) h1 h2
  have C1:=Lib.hid (fun W (hb : Below w.heap.size w W)=>refPlusM_any s t m n h1 h2 W (hs.keep hb) (ht.keep hb))
  have C2:=Lib.hid (fun W v (hm : Mags W v (m + n))=>refTrim_any b v (m + n) _ (by omega) (Qd.lsz_lt _) W hm)
  obtain ⟨z,hz⟩ : ∃ z,(b && !decide (m + n = 0)) = z:=⟨_,rfl⟩
  obtain ⟨u,hu⟩ : ∃ u,m + n = u:=⟨_,rfl⟩
  obtain ⟨p,c1,rfl,_,_⟩:=hs.parts
  obtain ⟨q,d1,rfl,_,_⟩:=ht.parts
  rw [hz] at C2 ⊢
  rw [hu] at C1 C2 ⊢
  obtain ⟨a1,ha1⟩ : ∃ a,Qd.lsz m = a:=⟨_,rfl⟩
  obtain ⟨a2,ha2⟩ : ∃ a,Qd.lsz n = a:=⟨_,rfl⟩
  rw [ha1,ha2] at C1 ⊢
  clear hs ht hz h1 h2 ha1 ha2 hlt hu
  obtain ⟨⟨k00,k01⟩,⟨k10,k11⟩,⟨k20,k21⟩,kf0,kf1⟩:=cells3 w (.bool b) (.slice p a1 c1) (.bool b) (.slice q a2 d1) (.bool false) (.slice none 0 0) 74 74 74
  go_enter Tryz.func80,Tryz.ntmps80
  have hlt0 : w.heap.size < w.heap.size + 1:=by omega
  go_wp2_with fail
  go_region_held3 (fun w'=>w'.cell? ⟨w.heap.size,0,none⟩ = some (.bool b)/\w'.cell? ⟨w.heap.size,1,none⟩ = some (.slice p a1 c1)/\w'.cell? ⟨w.heap.size + 1,1,none⟩ = some (.slice q a2 d1)) (first | exact ⟨k00,k01,k11⟩ | exact ⟨hx000,hx010,hx110⟩ | exact ⟨hx001,hx011,hx111⟩ | exact ⟨cell_set (cell_set hx001 (by first | (simp;done) | (simp;omega))) (by first | (simp;done) | (simp;omega)),cell_set (cell_set hx011 (by first | (simp;done) | (simp;omega))) (by first | (simp;done) | (simp;omega)),cell_set (cell_set hx111 (by first | (simp;done) | (simp;omega))) (by first | (simp;done) | (simp;omega))⟩ | go_keep)
    (first
      | (go_at_call 148;(with_reducible refine (C1.out _ (by repeat' first | exact Below.refl _ _ | assumption | refine Below.setCell ?_ ?_ _ | refine Below.alloc ?_ ?_ _ | refine below_drewN ?_ | refine Below.drew ?_ | (simp;done) | (simp;omega))).mono ?_);rintro e w2 ⟨v,rfl,hm2,hbn0⟩;obtain ⟨p2,c2,rfl,_,_⟩:=hm2.parts;have hlow:=Below.trans (a:=w) (B:=w.heap.size) (by repeat' first | exact Below.refl _ _ | assumption | refine Below.setCell ?_ ?_ _ | refine Below.alloc ?_ ?_ _ | refine below_drewN ?_ | refine Below.drew ?_ | (simp;done) | (simp;omega)) (Below.mono hbn0 (Below.size (B:=w.heap.size) (w:=w) (by repeat' first | exact Below.refl _ _ | assumption | refine Below.setCell ?_ ?_ _ | refine Below.alloc ?_ ?_ _ | refine below_drewN ?_ | refine Below.drew ?_ | (simp;done) | (simp;omega))));have hx000:=cell_kept (p:=⟨w.heap.size,0,none⟩) (v:=.bool b) (by exact k00) hbn0;have hx010:=cell_kept (p:=⟨w.heap.size,1,none⟩) (v:=.slice p a1 c1) (by exact k01) hbn0;have hx110:=cell_kept (p:=⟨w.heap.size + 1,1,none⟩) (v:=.slice q a2 d1) (by exact k11) hbn0;have hs0:=hbn0.size;have hzc00:=cell_kept (p:=⟨w.heap.size + 1 + 1,0,none⟩) (v:=.bool false) (by exact k20) hbn0;have hzc10:=cell_kept (p:=⟨w.heap.size + 1 + 1,1,none⟩) (v:=.slice none 0 0) (by exact k21) hbn0;have hzf00:=frozen_kept (p:=⟨w.heap.size + 1 + 1,0,none⟩) (b:=false) (by exact kf0) hbn0 (by have hlt:=hlt0;simp at hlt ⊢;try omega);have hzf10:=frozen_kept (p:=⟨w.heap.size + 1 + 1,1,none⟩) (b:=false) (by exact kf1) hbn0 (by have hlt:=hlt0;simp at hlt ⊢;try omega))
      | (go_at_call 144;(with_reducible refine (C2.out _ _ hm2).mono ?_);rintro e w3 ⟨v,rfl,hm3,hbn1⟩;obtain ⟨p3,c3,rfl,_,_⟩:=hm3.parts;have hlow3:=Below.trans hlow (Below.mono hbn1 (Below.size hlow));have hx001:=cell_kept (p:=⟨w.heap.size,0,none⟩) (v:=.bool b) hx000 hbn1;have hx011:=cell_kept (p:=⟨w.heap.size,1,none⟩) (v:=.slice p a1 c1) hx010 hbn1;have hx111:=cell_kept (p:=⟨w.heap.size + 1,1,none⟩) (v:=.slice q a2 d1) hx110 hbn1;have hs1:=hbn1.size;have hzc01:=cell_kept (p:=⟨w.heap.size + 1 + 1,0,none⟩) (v:=.bool false) hzc00 hbn1;have hzc11:=cell_kept (p:=⟨w.heap.size + 1 + 1,1,none⟩) (v:=.slice none 0 0) hzc10 hbn1;have hzf01:=frozen_kept (p:=⟨w.heap.size + 1 + 1,0,none⟩) (b:=false) hzf00 hbn1 (by have hlt:=hlt0;simp at hs0 hlt ⊢;omega);have hzf11:=frozen_kept (p:=⟨w.heap.size + 1 + 1,1,none⟩) (b:=false) hzf10 hbn1 (by have hlt:=hlt0;simp at hs0 hlt ⊢;omega)))
  go_wp2_with fail
  refine ret74 Tryz.results80 _ rfl (.bool z) (.slice p3 (Qd.lsz u) c3) (by go_simp) (by go_simp) rfl ?_
  exact ⟨_,rfl,Mg.set2 hm3 hzc01 _ _,(by repeat' first | exact Below.refl _ _ | assumption | refine Below.setCell ?_ ?_ _ | refine Below.alloc ?_ ?_ _ | refine below_drewN ?_ | refine Below.drew ?_ | (simp;done) | (simp;omega))⟩
set_option maxHeartbeats 4000000 in
set_option maxRecDepth 100000 in
theorem refPlus_ge (b c : Bool) (s t : Value) (m n : Nat) (hbc : (b == c) = false) (hmn : n <= m) (h1 : Qd.lsz m <= 10000) (h2 : Qd.lsz n <= 10000) (w : World) (hs : Mags w s m) (ht : Mags w t n) :
    Calls Tryz.prog 80 #[.agg #[.bool b,s],.agg #[.bool c,t]] w fun e w'=>∃ v,e = .returned (.agg #[.bool (b && !decide (m - n = 0)),v])/\Mags w' v (m - n)/\Below w.heap.size w w':=by
  have hlt : Qd.lsz (m - n) <= 10001:=Nat.le_trans (Qd.lsz_mono (Nat.sub_le m n)) (Nat.le_trans h1 (by decide))
  have C1:=Lib.hid (fun W (hb : Below w.heap.size w W)=>refMinusM_any s t m n hmn h1 W (hs.keep hb) (ht.keep hb))
  have C2:=Lib.hid (fun W v (hm : Mags W v (m - n))=>refTrim_any b v (m - n) _ (by omega) (Qd.lsz_lt _) W hm)
  have C0:=Lib.hid (fun W (hb : Below w.heap.size w W)=>refMag_any s t m n h1 h2 W (hs.keep hb) (ht.keep hb))
  have hr : decide ((0 : Int) <= cmpN m n) = true:=by unfold cmpN;rw [if_neg (by omega)];split <;> rfl
  obtain ⟨z,hz⟩ : ∃ z,(b && !decide (m - n = 0)) = z:=⟨_,rfl⟩
  obtain ⟨u,hu⟩ : ∃ u,m - n = u:=⟨_,rfl⟩
  obtain ⟨p,c1,rfl,_,_⟩:=hs.parts
  obtain ⟨q,d1,rfl,_,_⟩:=ht.parts
  rw [hz] at C2 ⊢
  rw [hu] at C1 C2 ⊢
  obtain ⟨a1,ha1⟩ : ∃ a,Qd.lsz m = a:=⟨_,rfl⟩
  obtain ⟨a2,ha2⟩ : ∃ a,Qd.lsz n = a:=⟨_,rfl⟩
  obtain ⟨r,hr0⟩ : ∃ r,cmpN m n = r:=⟨_,rfl⟩
  rw [hr0] at C0 hr
  rw [ha1,ha2] at C0 C1 ⊢
  clear hr0 hmn
  clear hs ht hz h1 h2 ha1 ha2 hlt hu
  obtain ⟨⟨k00,k01⟩,⟨k10,k11⟩,⟨k20,k21⟩,kf0,kf1⟩:=cells3 w (.bool b) (.slice p a1 c1) (.bool c) (.slice q a2 d1) (.bool false) (.slice none 0 0) 74 74 74
  go_enter Tryz.func80,Tryz.ntmps80
  go_wp2_with (go_at_call 149;(with_reducible refine (C0.out _ (by repeat' first | exact Below.refl _ _ | assumption | refine Below.setCell ?_ ?_ _ | refine Below.alloc ?_ ?_ _ | refine below_drewN ?_ | refine Below.drew ?_ | (simp;done) | (simp;omega))).mono ?_);rintro e w1 ⟨rfl,hb1⟩;have j00:=cell_kept k00 hb1;have j01:=cell_kept k01 hb1;have j10:=cell_kept k10 hb1;have j11:=cell_kept k11 hb1;have j20:=cell_kept k20 hb1;have j21:=cell_kept k21 hb1;have jf0:=frozen_kept kf0 hb1 (by simp);have jf1:=frozen_kept kf1 hb1 (by simp);have hlt0:=hb1.size;have HB1:=Lib.hid hb1;clear hb1)
  have hw1 : Below w.heap.size w w1:=Below.trans (by repeat' first | exact Below.refl _ _ | assumption | refine Below.setCell ?_ ?_ _ | refine Below.alloc ?_ ?_ _ | refine below_drewN ?_ | refine Below.drew ?_ | (simp;done) | (simp;omega)) (HB1.out.mono (by simp;omega))
  go_region_held3 (fun w'=>w'.cell? ⟨w.heap.size,0,none⟩ = some (.bool b)/\w'.cell? ⟨w.heap.size,1,none⟩ = some (.slice p a1 c1)/\w'.cell? ⟨w.heap.size + 1,1,none⟩ = some (.slice q a2 d1)) (first | exact ⟨j00,j01,j11⟩ | exact ⟨hx000,hx010,hx110⟩ | exact ⟨hx001,hx011,hx111⟩ | exact ⟨cell_set (cell_set hx001 (by first | (simp;done) | (simp;omega))) (by first | (simp;done) | (simp;omega)),cell_set (cell_set hx011 (by first | (simp;done) | (simp;omega))) (by first | (simp;done) | (simp;omega)),cell_set (cell_set hx111 (by first | (simp;done) | (simp;omega))) (by first | (simp;done) | (simp;omega))⟩ | go_keep)
    (first
      | (go_at_call 150;(with_reducible refine (C1.out _ (by repeat' first | exact Below.refl _ _ | assumption | refine Below.setCell ?_ ?_ _ | refine Below.alloc ?_ ?_ _ | refine below_drewN ?_ | refine Below.drew ?_ | (simp;done) | (simp;omega))).mono ?_);rintro e w2 ⟨v,rfl,hm2,hbn0⟩;obtain ⟨p2,c2,rfl,_,_⟩:=hm2.parts;have hlow:=Below.trans (a:=w) (B:=w.heap.size) (by repeat' first | exact Below.refl _ _ | assumption | refine Below.setCell ?_ ?_ _ | refine Below.alloc ?_ ?_ _ | refine below_drewN ?_ | refine Below.drew ?_ | (simp;done) | (simp;omega)) (Below.mono hbn0 (Below.size (B:=w.heap.size) (w:=w) (by repeat' first | exact Below.refl _ _ | assumption | refine Below.setCell ?_ ?_ _ | refine Below.alloc ?_ ?_ _ | refine below_drewN ?_ | refine Below.drew ?_ | (simp;done) | (simp;omega))));have hx000:=cell_kept (p:=⟨w.heap.size,0,none⟩) (v:=.bool b) (by exact j00) hbn0;have hx010:=cell_kept (p:=⟨w.heap.size,1,none⟩) (v:=.slice p a1 c1) (by exact j01) hbn0;have hx110:=cell_kept (p:=⟨w.heap.size + 1,1,none⟩) (v:=.slice q a2 d1) (by exact j11) hbn0;have hs0:=hbn0.size;have hzc00:=cell_kept (p:=⟨w.heap.size + 1 + 1,0,none⟩) (v:=.bool false) (by exact j20) hbn0;have hzc10:=cell_kept (p:=⟨w.heap.size + 1 + 1,1,none⟩) (v:=.slice none 0 0) (by exact j21) hbn0;have hzf00:=frozen_kept (p:=⟨w.heap.size + 1 + 1,0,none⟩) (b:=false) (by exact jf0) hbn0 (by have hlt:=hlt0;simp at hlt ⊢;try omega);have hzf10:=frozen_kept (p:=⟨w.heap.size + 1 + 1,1,none⟩) (b:=false) (by exact jf1) hbn0 (by have hlt:=hlt0;simp at hlt ⊢;try omega))
      | (go_at_call 144;(with_reducible refine (C2.out _ _ hm2).mono ?_);rintro e w3 ⟨v,rfl,hm3,hbn1⟩;obtain ⟨p3,c3,rfl,_,_⟩:=hm3.parts;have hlow3:=Below.trans hlow (Below.mono hbn1 (Below.size hlow));have hx001:=cell_kept (p:=⟨w.heap.size,0,none⟩) (v:=.bool b) hx000 hbn1;have hx011:=cell_kept (p:=⟨w.heap.size,1,none⟩) (v:=.slice p a1 c1) hx010 hbn1;have hx111:=cell_kept (p:=⟨w.heap.size + 1,1,none⟩) (v:=.slice q a2 d1) hx110 hbn1;have hs1:=hbn1.size;have hzc01:=cell_kept (p:=⟨w.heap.size + 1 + 1,0,none⟩) (v:=.bool false) hzc00 hbn1;have hzc11:=cell_kept (p:=⟨w.heap.size + 1 + 1,1,none⟩) (v:=.slice none 0 0) hzc10 hbn1;have hzf01:=frozen_kept (p:=⟨w.heap.size + 1 + 1,0,none⟩) (b:=false) hzf00 hbn1 (by have hlt:=hlt0;simp at hs0 hlt ⊢;omega);have hzf11:=frozen_kept (p:=⟨w.heap.size + 1 + 1,1,none⟩) (b:=false) hzf10 hbn1 (by have hlt:=hlt0;simp at hs0 hlt ⊢;omega)))
  go_wp2_with fail
  refine ret74 Tryz.results80 _ rfl (.bool z) (.slice p3 (Qd.lsz u) c3) (by go_simp) (by go_simp) rfl ?_
  exact ⟨_,rfl,Mg.set2 hm3 hzc01 _ _,(by repeat' first | exact Below.refl _ _ | assumption | refine Below.setCell ?_ ?_ _ | refine Below.alloc ?_ ?_ _ | refine below_drewN ?_ | refine Below.drew ?_ | (simp;done) | (simp;omega))⟩
set_option maxHeartbeats 4000000 in
set_option maxRecDepth 100000 in
theorem refPlus_lt (b c : Bool) (s t : Value) (m n : Nat) (hbc : (b == c) = false) (hmn : m <= n) (hne : m < n) (h1 : Qd.lsz m <= 10000) (h2 : Qd.lsz n <= 10000) (w : World) (hs : Mags w s m) (ht : Mags w t n) :
    Calls Tryz.prog 80 #[.agg #[.bool b,s],.agg #[.bool c,t]] w fun e w'=>∃ v,e = .returned (.agg #[.bool (c && !decide (n - m = 0)),v])/\Mags w' v (n - m)/\Below w.heap.size w w':=by
  have hlt : Qd.lsz (n - m) <= 10001:=Nat.le_trans (Qd.lsz_mono (Nat.sub_le n m)) (Nat.le_trans h2 (by decide))
  have C1:=Lib.hid (fun W (hb : Below w.heap.size w W)=>refMinusM_any t s n m hmn h2 W (ht.keep hb) (hs.keep hb))
  have C2:=Lib.hid (fun W v (hm : Mags W v (n - m))=>refTrim_any c v (n - m) _ (by omega) (Qd.lsz_lt _) W hm)
  have C0:=Lib.hid (fun W (hb : Below w.heap.size w W)=>refMag_any s t m n h1 h2 W (hs.keep hb) (ht.keep hb))
  have hr : decide ((0 : Int) <= cmpN m n) = false:=by unfold cmpN;rw [if_pos (by omega)];rfl
  obtain ⟨z,hz⟩ : ∃ z,(c && !decide (n - m = 0)) = z:=⟨_,rfl⟩
  obtain ⟨u,hu⟩ : ∃ u,n - m = u:=⟨_,rfl⟩
  obtain ⟨p,c1,rfl,_,_⟩:=hs.parts
  obtain ⟨q,d1,rfl,_,_⟩:=ht.parts
  rw [hz] at C2 ⊢
  rw [hu] at C1 C2 ⊢
  obtain ⟨a1,ha1⟩ : ∃ a,Qd.lsz m = a:=⟨_,rfl⟩
  obtain ⟨a2,ha2⟩ : ∃ a,Qd.lsz n = a:=⟨_,rfl⟩
  obtain ⟨r,hr0⟩ : ∃ r,cmpN m n = r:=⟨_,rfl⟩
  rw [hr0] at C0 hr
  rw [ha1,ha2] at C0 C1 ⊢
  clear hr0 hmn hne
  clear hs ht hz h1 h2 ha1 ha2 hlt hu
  obtain ⟨⟨k00,k01⟩,⟨k10,k11⟩,⟨k20,k21⟩,kf0,kf1⟩:=cells3 w (.bool b) (.slice p a1 c1) (.bool c) (.slice q a2 d1) (.bool false) (.slice none 0 0) 74 74 74
  go_enter Tryz.func80,Tryz.ntmps80
  go_wp2_with (go_at_call 149;(with_reducible refine (C0.out _ (by repeat' first | exact Below.refl _ _ | assumption | refine Below.setCell ?_ ?_ _ | refine Below.alloc ?_ ?_ _ | refine below_drewN ?_ | refine Below.drew ?_ | (simp;done) | (simp;omega))).mono ?_);rintro e w1 ⟨rfl,hb1⟩;have j00:=cell_kept k00 hb1;have j01:=cell_kept k01 hb1;have j10:=cell_kept k10 hb1;have j11:=cell_kept k11 hb1;have j20:=cell_kept k20 hb1;have j21:=cell_kept k21 hb1;have jf0:=frozen_kept kf0 hb1 (by simp);have jf1:=frozen_kept kf1 hb1 (by simp);have hlt0:=hb1.size;have HB1:=Lib.hid hb1;clear hb1)
  have hw1 : Below w.heap.size w w1:=Below.trans (by repeat' first | exact Below.refl _ _ | assumption | refine Below.setCell ?_ ?_ _ | refine Below.alloc ?_ ?_ _ | refine below_drewN ?_ | refine Below.drew ?_ | (simp;done) | (simp;omega)) (HB1.out.mono (by simp;omega))
  go_region_held3 (fun w'=>w'.cell? ⟨w.heap.size + 1,0,none⟩ = some (.bool c)/\w'.cell? ⟨w.heap.size,1,none⟩ = some (.slice p a1 c1)/\w'.cell? ⟨w.heap.size + 1,1,none⟩ = some (.slice q a2 d1)) (first | exact ⟨j10,j01,j11⟩ | exact ⟨hx100,hx010,hx110⟩ | exact ⟨hx101,hx011,hx111⟩ | exact ⟨cell_set (cell_set hx101 (by first | (simp;done) | (simp;omega))) (by first | (simp;done) | (simp;omega)),cell_set (cell_set hx011 (by first | (simp;done) | (simp;omega))) (by first | (simp;done) | (simp;omega)),cell_set (cell_set hx111 (by first | (simp;done) | (simp;omega))) (by first | (simp;done) | (simp;omega))⟩ | go_keep)
    (first
      | (go_at_call 150;(with_reducible refine (C1.out _ (by repeat' first | exact Below.refl _ _ | assumption | refine Below.setCell ?_ ?_ _ | refine Below.alloc ?_ ?_ _ | refine below_drewN ?_ | refine Below.drew ?_ | (simp;done) | (simp;omega))).mono ?_);rintro e w2 ⟨v,rfl,hm2,hbn0⟩;obtain ⟨p2,c2,rfl,_,_⟩:=hm2.parts;have hlow:=Below.trans (a:=w) (B:=w.heap.size) (by repeat' first | exact Below.refl _ _ | assumption | refine Below.setCell ?_ ?_ _ | refine Below.alloc ?_ ?_ _ | refine below_drewN ?_ | refine Below.drew ?_ | (simp;done) | (simp;omega)) (Below.mono hbn0 (Below.size (B:=w.heap.size) (w:=w) (by repeat' first | exact Below.refl _ _ | assumption | refine Below.setCell ?_ ?_ _ | refine Below.alloc ?_ ?_ _ | refine below_drewN ?_ | refine Below.drew ?_ | (simp;done) | (simp;omega))));have hx100:=cell_kept (p:=⟨w.heap.size + 1,0,none⟩) (v:=.bool c) (by exact j10) hbn0;have hx010:=cell_kept (p:=⟨w.heap.size,1,none⟩) (v:=.slice p a1 c1) (by exact j01) hbn0;have hx110:=cell_kept (p:=⟨w.heap.size + 1,1,none⟩) (v:=.slice q a2 d1) (by exact j11) hbn0;have hs0:=hbn0.size;have hzc00:=cell_kept (p:=⟨w.heap.size + 1 + 1,0,none⟩) (v:=.bool false) (by exact j20) hbn0;have hzc10:=cell_kept (p:=⟨w.heap.size + 1 + 1,1,none⟩) (v:=.slice none 0 0) (by exact j21) hbn0;have hzf00:=frozen_kept (p:=⟨w.heap.size + 1 + 1,0,none⟩) (b:=false) (by exact jf0) hbn0 (by have hlt:=hlt0;simp at hlt ⊢;try omega);have hzf10:=frozen_kept (p:=⟨w.heap.size + 1 + 1,1,none⟩) (b:=false) (by exact jf1) hbn0 (by have hlt:=hlt0;simp at hlt ⊢;try omega))
      | (go_at_call 144;(with_reducible refine (C2.out _ _ hm2).mono ?_);rintro e w3 ⟨v,rfl,hm3,hbn1⟩;obtain ⟨p3,c3,rfl,_,_⟩:=hm3.parts;have hlow3:=Below.trans hlow (Below.mono hbn1 (Below.size hlow));have hx101:=cell_kept (p:=⟨w.heap.size + 1,0,none⟩) (v:=.bool c) hx100 hbn1;have hx011:=cell_kept (p:=⟨w.heap.size,1,none⟩) (v:=.slice p a1 c1) hx010 hbn1;have hx111:=cell_kept (p:=⟨w.heap.size + 1,1,none⟩) (v:=.slice q a2 d1) hx110 hbn1;have hs1:=hbn1.size;have hzc01:=cell_kept (p:=⟨w.heap.size + 1 + 1,0,none⟩) (v:=.bool false) hzc00 hbn1;have hzc11:=cell_kept (p:=⟨w.heap.size + 1 + 1,1,none⟩) (v:=.slice none 0 0) hzc10 hbn1;have hzf01:=frozen_kept (p:=⟨w.heap.size + 1 + 1,0,none⟩) (b:=false) hzf00 hbn1 (by have hlt:=hlt0;simp at hs0 hlt ⊢;omega);have hzf11:=frozen_kept (p:=⟨w.heap.size + 1 + 1,1,none⟩) (b:=false) hzf10 hbn1 (by have hlt:=hlt0;simp at hs0 hlt ⊢;omega)))
  go_wp2_with fail
  refine ret74 Tryz.results80 _ rfl (.bool z) (.slice p3 (Qd.lsz u) c3) (by go_simp) (by go_simp) rfl ?_
  exact ⟨_,rfl,Mg.set2 hm3 hzc01 _ _,(by repeat' first | exact Below.refl _ _ | assumption | refine Below.setCell ?_ ?_ _ | refine Below.alloc ?_ ?_ _ | refine below_drewN ?_ | refine Below.drew ?_ | (simp;done) | (simp;omega))⟩
end
section
open Go.RowKit
open Qd (lims)
theorem cells2 (w : World) (x0 x1 y0 y1 : Value) (t1 t2 : TypeId) : (((w.alloc (.cells #[x0,x1] t1)).alloc (.cells #[y0,y1] t2)).cell? ⟨w.heap.size,0,none⟩ = some x0/\((w.alloc (.cells #[x0,x1] t1)).alloc (.cells #[y0,y1] t2)).cell? ⟨w.heap.size,1,none⟩ = some x1) /\
    (((w.alloc (.cells #[x0,x1] t1)).alloc (.cells #[y0,y1] t2)).cell? ⟨w.heap.size + 1,0,none⟩ = some y0/\((w.alloc (.cells #[x0,x1] t1)).alloc (.cells #[y0,y1] t2)).cell? ⟨w.heap.size + 1,1,none⟩ = some y1) /\
    (((w.alloc (.cells #[x0,x1] t1)).alloc (.cells #[y0,y1] t2)).frozen? ⟨w.heap.size + 1,0,none⟩ = false/\((w.alloc (.cells #[x0,x1] t1)).alloc (.cells #[y0,y1] t2)).frozen? ⟨w.heap.size + 1,1,none⟩ = false):=by
  refine ⟨⟨?_,?_⟩,⟨?_,?_⟩,?_,?_⟩ <;> go_simp
theorem dec_of {p : Prop} [Decidable p] {b : Bool} (h : b = true ↔ p) : b = decide p:=by
  cases b
  · exact (decide_eq_false (fun hp=>by have:=h.2 hp;cases this)).symm
  · exact (decide_eq_true (h.1 rfl)).symm
theorem refPlus_any (x y : Value) (z1 z2 : Int) (h1 : Qd.lsz z1.natAbs <= 10000) (h2 : Qd.lsz z2.natAbs <= 10000) (w : World) (hx : BigAt w x z1) (hy : BigAt w y z2) :
    Calls Tryz.prog 80 #[x,y] w fun e w'=>∃ v,e = .returned v/\BigAt w' v (z1 + z2)/\Below w.heap.size w w':=by
  obtain ⟨s,rfl,hs⟩:=hx
  obtain ⟨t,rfl,ht⟩:=hy
  have fin : ∀ (b : Bool) (n : Nat) (v : Value) (W : World),n = (z1 + z2).natAbs->((b && !decide (n = 0)) = true ↔ z1 + z2 < 0)->Mags W v n->BigAt W (.agg #[.bool (b && !decide (n = 0)),v]) (z1 + z2):=by
    intro b n v W hn hb hm
    subst hn
    exact ⟨v,by rw [dec_of hb],hm⟩
  by_cases hc : decide (z1 < 0) = decide (z2 < 0)
  · rw [<- hc]
    refine (refPlus_same _ s t _ _ h1 h2 w hs ht).mono ?_
    rintro e w' ⟨v,rfl,hm,hb⟩
    refine ⟨_,rfl,fin _ _ v w' ?_ ?_ hm,hb⟩
    · simp only [decide_eq_decide] at hc;omega
    · simp only [decide_eq_decide] at hc;simp;omega
  · have hbc : (decide (z1 < 0) == decide (z2 < 0)) = false:=by simpa using hc
    by_cases hl : z2.natAbs <= z1.natAbs
    · refine (refPlus_ge _ _ s t _ _ hbc hl h1 h2 w hs ht).mono ?_
      rintro e w' ⟨v,rfl,hm,hb⟩
      refine ⟨_,rfl,fin _ _ v w' ?_ ?_ hm,hb⟩
      · simp only [decide_eq_decide] at hc;omega
      · simp only [decide_eq_decide] at hc;simp;omega
    · refine (refPlus_lt _ _ s t _ _ hbc (by omega) (by omega) h1 h2 w hs ht).mono ?_
      rintro e w' ⟨v,rfl,hm,hb⟩
      refine ⟨_,rfl,fin _ _ v w' ?_ ?_ hm,hb⟩
      · simp only [decide_eq_decide] at hc;omega
      · simp only [decide_eq_decide] at hc;simp;omega
set_option maxHeartbeats 1000000 in
set_option maxRecDepth 100000 in
theorem refNegative_any (x : Value) (z : Int) (h1 : Qd.lsz z.natAbs <= 10000) (w : World) (hx : BigAt w x z) :
    Calls Tryz.prog 76 #[x] w fun e w'=>∃ v,e = .returned v/\BigAt w' v (-z)/\Below w.heap.size w w':=by
  obtain ⟨s,rfl,hs⟩:=hx
  have C:=Lib.hid (fun W (hb : Below w.heap.size w W)=>refTrim_any (!decide (z < 0)) s z.natAbs _ (by omega) (Qd.lsz_lt _) W (hs.keep hb))
  have hf : ((!decide (z < 0)) && !decide (z.natAbs = 0)) = decide (-z < 0):=dec_of (by simp;omega)
  rw [hf] at C
  have hn : z.natAbs = (-z).natAbs:=by omega
  have fin : ∀ v W,Mags W v z.natAbs->BigAt W (.agg #[.bool (decide (-z < 0)),v]) (-z):=fun v W hm=>⟨v,rfl,by rw [<- hn];exact hm⟩
  obtain ⟨p,c,rfl,_,_⟩:=hs.parts
  obtain ⟨b,hb⟩ : ∃ b,decide (z < 0) = b:=⟨_,rfl⟩
  obtain ⟨b2,hb2⟩ : ∃ b,decide (-z < 0) = b:=⟨_,rfl⟩
  obtain ⟨k,hk⟩ : ∃ k,Qd.lsz z.natAbs = k:=⟨_,rfl⟩
  rw [hb,hb2,hk] at C
  rw [hb,hk]
  rw [hb2] at fin
  have Fin:=Lib.hid fin
  obtain ⟨_,⟨k10,k11⟩,kf0,kf1⟩:=cells2 w (.bool b) (.slice p k c) (.bool false) (.slice none 0 0) 74 74
  clear hs h1 hf hn hb hb2 hk fin
  go_enter Tryz.func76,Tryz.ntmps76
  go_wp2_with (go_at_call 144;(with_reducible refine (C.out _ (by repeat' first | exact Below.refl _ _ | assumption | refine Below.setCell ?_ ?_ _ | refine Below.alloc ?_ ?_ _ | refine below_drewN ?_ | refine Below.drew ?_ | (simp;done) | (simp;omega))).mono ?_);rintro e w2 ⟨v,rfl,hm,hb⟩;have HM:=Lib.hid hm;obtain ⟨p2,c2,rfl,_,_⟩:=hm.parts;have j0:=cell_kept k10 hb;have j1:=cell_kept k11 hb;have f0:=frozen_kept kf0 hb (by simp);have f1:=frozen_kept kf1 hb (by simp);have hlow:=Below.trans (a:=w) (B:=w.heap.size) (by repeat' first | exact Below.refl _ _ | assumption | refine Below.setCell ?_ ?_ _ | refine Below.alloc ?_ ?_ _ | refine below_drewN ?_ | refine Below.drew ?_ | (simp;done) | (simp;omega)) (Below.mono hb (Below.size (B:=w.heap.size) (w:=w) (by repeat' first | exact Below.refl _ _ | assumption | refine Below.setCell ?_ ?_ _ | refine Below.alloc ?_ ?_ _ | refine below_drewN ?_ | refine Below.drew ?_ | (simp;done) | (simp;omega))));clear hm hb)
  refine ret74 Tryz.results76 _ rfl (.bool b2) (.slice p2 (Qd.lsz z.natAbs) c2) (by go_simp) (by go_simp) rfl ?_
  exact ⟨_,rfl,Fin.out _ _ (Mg.set2 HM.out j0 _ _),(by repeat' first | exact Below.refl _ _ | assumption | refine Below.setCell ?_ ?_ _ | refine Below.alloc ?_ ?_ _ | refine below_drewN ?_ | refine Below.drew ?_ | (simp;done) | (simp;omega))⟩
end
section
open Go.RowKit
open Qd (lims)
theorem BigAt.shape {w : World} {v : Value} {z : Int} (h : BigAt w v z) : ∃ b p k c,v = .agg #[.bool b,.slice p k c]:=by
  obtain ⟨s,rfl,hs⟩:=h
  obtain ⟨p,c,rfl,_,_⟩:=hs.parts
  exact ⟨_,_,_,_,rfl⟩
theorem BigAt.set2 {w : World} {v : Value} {z : Int} {b : Nat} {x : Bool} (h : BigAt w v z) (hc : w.cell? ⟨b,0,none⟩ = some (.bool x)) (u0 u1 : Value) : BigAt ((w.setCell ⟨b,0,none⟩ u0).setCell ⟨b,1,none⟩ u1) v z:=by
  obtain ⟨s,rfl,hs⟩:=h
  exact ⟨s,rfl,Mg.set2 hs hc _ _⟩
theorem natAbs_neg' (z : Int) : (-z).natAbs = z.natAbs:=by omega
set_option maxHeartbeats 4000000 in
set_option maxRecDepth 100000 in
theorem refMinus_any (x y : Value) (z1 z2 : Int) (h1 : Qd.lsz z1.natAbs <= 10000) (h2 : Qd.lsz z2.natAbs <= 10000) (w : World) (hx : BigAt w x z1) (hy : BigAt w y z2) :
    Calls Tryz.prog 82 #[x,y] w fun e w'=>∃ v,e = .returned v/\BigAt w' v (z1 - z2)/\Below w.heap.size w w':=by
  have C1:=Lib.hid (fun W (hb : Below w.heap.size w W)=>refNegative_any y z2 h2 W (hy.keep hb))
  have C2:=Lib.hid (fun W v (hb : Below w.heap.size w W) (hv : BigAt W v (-z2))=>refPlus_any x v z1 (-z2) h1 (by rw [natAbs_neg'];exact h2) W (hx.keep hb) hv)
  obtain ⟨b1,p,a1,c1,rfl⟩:=hx.shape
  obtain ⟨b2,q,a2,d1,rfl⟩:=hy.shape
  obtain ⟨n2,hn2⟩ : ∃ n,-z2 = n:=⟨_,rfl⟩
  obtain ⟨r,hr⟩ : ∃ r,z1 - z2 = r:=⟨_,rfl⟩
  have hr2 : z1 + n2 = r:=by omega
  rw [hn2] at C1 C2
  rw [hr2] at C2
  rw [hr]
  clear hx hy h1 h2 hn2 hr hr2
  have hlt0 : w.heap.size < w.heap.size + 1:=by omega
  obtain ⟨⟨k00,k01⟩,⟨k10,k11⟩,⟨k20,k21⟩,kf0,kf1⟩:=cells3 w (.bool b1) (.slice p a1 c1) (.bool b2) (.slice q a2 d1) (.bool false) (.slice none 0 0) 74 74 74
  go_enter Tryz.func82,Tryz.ntmps82
  go_wp2_with fail
  go_region_held3 (fun w'=>w'.cell? ⟨w.heap.size,0,none⟩ = some (.bool b1)/\w'.cell? ⟨w.heap.size,1,none⟩ = some (.slice p a1 c1)/\w'.cell? ⟨w.heap.size + 1,0,none⟩ = some (.bool b2)/\w'.cell? ⟨w.heap.size + 1,1,none⟩ = some (.slice q a2 d1)) (first | exact ⟨k00,k01,k10,k11⟩ | exact ⟨hx000,hx010,hx100,hx110⟩ | exact ⟨hx001,hx011,hx101,hx111⟩ | exact ⟨cell_set (cell_set hx001 (by first | (simp;done) | (simp;omega))) (by first | (simp;done) | (simp;omega)),cell_set (cell_set hx011 (by first | (simp;done) | (simp;omega))) (by first | (simp;done) | (simp;omega)),cell_set (cell_set hx101 (by first | (simp;done) | (simp;omega))) (by first | (simp;done) | (simp;omega)),cell_set (cell_set hx111 (by first | (simp;done) | (simp;omega))) (by first | (simp;done) | (simp;omega))⟩ | go_keep)
    (first
      | (go_at_call 76;(with_reducible refine (C1.out _ (by repeat' first | exact Below.refl _ _ | assumption | refine Below.setCell ?_ ?_ _ | refine Below.alloc ?_ ?_ _ | refine below_drewN ?_ | refine Below.drew ?_ | (simp;done) | (simp;omega))).mono ?_);rintro e w2 ⟨v,rfl,hg2,hbn0⟩;obtain ⟨b3,p3,k3,c3,rfl⟩:=hg2.shape;have hlow:=Below.trans (a:=w) (B:=w.heap.size) (by repeat' first | exact Below.refl _ _ | assumption | refine Below.setCell ?_ ?_ _ | refine Below.alloc ?_ ?_ _ | refine below_drewN ?_ | refine Below.drew ?_ | (simp;done) | (simp;omega)) (Below.mono hbn0 (Below.size (B:=w.heap.size) (w:=w) (by repeat' first | exact Below.refl _ _ | assumption | refine Below.setCell ?_ ?_ _ | refine Below.alloc ?_ ?_ _ | refine below_drewN ?_ | refine Below.drew ?_ | (simp;done) | (simp;omega))));have hx000:=cell_kept (p:=⟨w.heap.size,0,none⟩) (v:=.bool b1) (by exact k00) hbn0;have hx010:=cell_kept (p:=⟨w.heap.size,1,none⟩) (v:=.slice p a1 c1) (by exact k01) hbn0;have hx100:=cell_kept (p:=⟨w.heap.size + 1,0,none⟩) (v:=.bool b2) (by exact k10) hbn0;have hx110:=cell_kept (p:=⟨w.heap.size + 1,1,none⟩) (v:=.slice q a2 d1) (by exact k11) hbn0;have hs0:=hbn0.size;have hzc00:=cell_kept (p:=⟨w.heap.size + 1 + 1,0,none⟩) (v:=.bool false) (by exact k20) hbn0;have hzc10:=cell_kept (p:=⟨w.heap.size + 1 + 1,1,none⟩) (v:=.slice none 0 0) (by exact k21) hbn0;have hzf00:=frozen_kept (p:=⟨w.heap.size + 1 + 1,0,none⟩) (b:=false) (by exact kf0) hbn0 (by have hlt:=hlt0;simp at hlt ⊢;try omega);have hzf10:=frozen_kept (p:=⟨w.heap.size + 1 + 1,1,none⟩) (b:=false) (by exact kf1) hbn0 (by have hlt:=hlt0;simp at hlt ⊢;try omega))
      | (go_at_call 80;(with_reducible refine (C2.out _ _ (by repeat' first | exact Below.refl _ _ | assumption | refine Below.setCell ?_ ?_ _ | refine Below.alloc ?_ ?_ _ | refine below_drewN ?_ | refine Below.drew ?_ | (simp;done) | (simp;omega)) (BigAt.keep hg2 (by repeat' first | exact Below.refl _ _ | assumption | refine Below.setCell ?_ ?_ _ | refine Below.alloc ?_ ?_ _ | refine below_drewN ?_ | refine Below.drew ?_ | (simp;done) | (simp;omega)))).mono ?_);rintro e w3 ⟨v,rfl,hg3,hbn1⟩;obtain ⟨b4,p4,k4,c4,rfl⟩:=hg3.shape;have hlow3:=Below.trans hlow (Below.mono hbn1 (Below.size hlow));have hx001:=cell_kept (p:=⟨w.heap.size,0,none⟩) (v:=.bool b1) hx000 hbn1;have hx011:=cell_kept (p:=⟨w.heap.size,1,none⟩) (v:=.slice p a1 c1) hx010 hbn1;have hx101:=cell_kept (p:=⟨w.heap.size + 1,0,none⟩) (v:=.bool b2) hx100 hbn1;have hx111:=cell_kept (p:=⟨w.heap.size + 1,1,none⟩) (v:=.slice q a2 d1) hx110 hbn1;have hs1:=hbn1.size;have hzc01:=cell_kept (p:=⟨w.heap.size + 1 + 1,0,none⟩) (v:=.bool false) hzc00 hbn1;have hzc11:=cell_kept (p:=⟨w.heap.size + 1 + 1,1,none⟩) (v:=.slice none 0 0) hzc10 hbn1;have hzf01:=frozen_kept (p:=⟨w.heap.size + 1 + 1,0,none⟩) (b:=false) hzf00 hbn1 (by have hlt:=hlt0;simp at hs0 hlt ⊢;omega);have hzf11:=frozen_kept (p:=⟨w.heap.size + 1 + 1,1,none⟩) (b:=false) hzf10 hbn1 (by have hlt:=hlt0;simp at hs0 hlt ⊢;omega)))
  go_wp2_with fail
  refine ret74 Tryz.results82 _ rfl (.bool b4) (.slice p4 k4 c4) (by go_simp) (by go_simp) rfl ?_
  exact ⟨_,rfl,BigAt.set2 hg3 hzc01 _ _,(by repeat' first | exact Below.refl _ _ | assumption | refine Below.setCell ?_ ?_ _ | refine Below.alloc ?_ ?_ _ | refine below_drewN ?_ | refine Below.drew ?_ | (simp;done) | (simp;omega))⟩
end
section
open Go.RowKit
open Qd (lims)
def ocmp (a b : Int) : Int:=if a < b then -1 else if b < a then 1 else 0
theorem BigAt.parts {w : World} {v : Value} {z : Int} (h : BigAt w v z) : ∃ p k c,v = .agg #[.bool (decide (z < 0)),.slice p k c]/\k = Qd.lsz z.natAbs:=by
  obtain ⟨s,rfl,hs⟩:=h
  obtain ⟨p,c,rfl,_,_⟩:=hs.parts
  exact ⟨_,_,_,rfl,rfl⟩
set_option maxHeartbeats 4000000 in
set_option maxRecDepth 100000 in
theorem refOrder_any (x y : Value) (z1 z2 : Int) (h1 : Qd.lsz z1.natAbs <= 10000) (h2 : Qd.lsz z2.natAbs <= 10000) (w : World) (hx : BigAt w x z1) (hy : BigAt w y z2) :
    Calls Tryz.prog 71 #[x,y] w fun e w'=>e = .returned (.int .i64 (ocmp z1 z2))/\Below w.heap.size w w':=by
  have C1:=Lib.hid (fun W (hb : Below w.heap.size w W)=>refMinus_any x y z1 z2 h1 h2 W (hx.keep hb) (hy.keep hb))
  obtain ⟨b1,p,a1,c1,rfl⟩:=hx.shape
  obtain ⟨b2,q,a2,d1,rfl⟩:=hy.shape
  obtain ⟨r,hr⟩ : ∃ r,ocmp z1 z2 = r:=⟨_,rfl⟩
  obtain ⟨d,hd⟩ : ∃ r,z1 - z2 = r:=⟨_,rfl⟩
  rw [hr]
  rw [hd] at C1
  have h3 : d = 0->r = 0:=by intro h;rw [<- hr];unfold ocmp;rw [if_neg (by omega),if_neg (by omega)]
  have h4 : d < 0->r = -1:=by intro h;rw [<- hr];unfold ocmp;rw [if_pos (by omega)]
  have h5 : 0 < d->r = 1:=by intro h;rw [<- hr];unfold ocmp;rw [if_neg (by omega),if_pos (by omega)]
  clear hr hd h1 h2 hx hy
  rcases Int.lt_trichotomy d 0 with h | h | h
  all_goals
    first
    | (have e3:=h4 h;have e0:=Lib.hid (show Qd.lsz d.natAbs ≠ 0 from fun hz=>by have:=Qd.lsz_eq_zero.1 hz;omega);have e1:=Lib.hid (decide_eq_true h))
    | (have e3:=h3 h;have e0:=Lib.hid (show Qd.lsz d.natAbs = 0 from Qd.lsz_eq_zero.2 (by omega));have e1:=Lib.hid h)
    | (have e3:=h5 h;have e0:=Lib.hid (show Qd.lsz d.natAbs ≠ 0 from fun hz=>by have:=Qd.lsz_eq_zero.1 hz;omega);have e1:=Lib.hid (decide_eq_false (show ¬ d < 0 by omega)))
    subst e3
    clear h3 h4 h5 h
    go_enter Tryz.func71,Tryz.ntmps71
    go_wp2_with (go_at_call 82;(with_reducible refine (C1.out _ (by repeat' first | exact Below.refl _ _ | assumption | refine Below.setCell ?_ ?_ _ | refine Below.alloc ?_ ?_ _ | refine below_drewN ?_ | refine Below.drew ?_ | (simp;done) | (simp;omega))).mono ?_);rintro e w2 ⟨v,rfl,hg2,hbn0⟩;obtain ⟨p3,k3,c3,rfl,hk3⟩:=hg2.parts;have hlow:=Below.trans (a:=w) (B:=w.heap.size) (by repeat' first | exact Below.refl _ _ | assumption | refine Below.setCell ?_ ?_ _ | refine Below.alloc ?_ ?_ _ | refine below_drewN ?_ | refine Below.drew ?_ | (simp;done) | (simp;omega)) (Below.mono hbn0 (Below.size (B:=w.heap.size) (w:=w) (by repeat' first | exact Below.refl _ _ | assumption | refine Below.setCell ?_ ?_ _ | refine Below.alloc ?_ ?_ _ | refine below_drewN ?_ | refine Below.drew ?_ | (simp;done) | (simp;omega))));have hls:=hlow.size;clear hbn0;first | (have ez:=e0.out;rw [<- hk3] at ez;subst ez;clear hk3;skip) | (have ez:=e0.out;rw [<- hk3] at ez;have d1 : decide ((k3 : Int) = 0) = false:=(by simp;omega);rw [e1.out];clear hk3 hg2;skip))
    go_ret
    exact ⟨rfl,(by repeat' first | exact Below.refl _ _ | assumption | refine Below.setCell ?_ ?_ _ | refine Below.alloc ?_ ?_ _ | refine below_drewN ?_ | refine Below.drew ?_ | (simp;done) | (simp;omega))⟩
end
end Go.Proofs.YtpbegoflpfdajaaGreatDoor
/- WHAT IS PROVED: contracts of functions of the numbers package and laws for them, used by the last text of this claim. CONDITIONS: stated at each theorem. -/
import Derived.Test.YtpbegoflpfdajaaGreatDoorB41
import Derived.Deep.RegionWith
namespace Go.Proofs.YtpbegoflpfdajaaGreatDoor
section
open Go.RowKit
open Qd (lims)
set_option maxHeartbeats 4000000 in
set_option maxRecDepth 100000 in
theorem refOver_zero (b : Bool) (s t : Value) (m n : Nat) (hn : 0 < n) (hr : m % n = 0) (h1 : Qd.lsz m <= 5000) (h2 : Qd.lsz n <= 5000) (w : World) (hs : Mags w s m) (ht : Mags w t n) :
    Calls Tryz.prog 91 #[.agg #[.bool true,s],.agg #[.bool b,t]] w fun e w'=>∃ v u,e = .returned (.tuple #[.agg #[.bool ((true != b) && !decide (m / n = 0)),v],.agg #[.bool false,u]])/\Mags w' v (m / n)/\Mags w' u (m % n)/\Below w.heap.size w w':=by
  have C1:=Lib.hid (fun W (hb : Below w.heap.size w W)=>refOverM_any s t m n hn h1 h2 W (hs.keep hb) (ht.keep hb))
  have hl1 : Qd.lsz (m / n) <= 5000:=Nat.le_trans (Qd.lsz_mono (Nat.div_le_self m n)) h1
  have hl2 : Qd.lsz (m % n) <= 5000:=Nat.le_trans (Qd.lsz_mono (Nat.mod_le m n)) h1
  have C2:=Lib.hid (fun W v (hm : Mags W v (m / n))=>refTrim_any (!b) v (m / n) _ (by omega) (Qd.lsz_lt _) W hm)
  have C3:=Lib.hid (fun W v (hm : Mags W v (m % n))=>refTrim_any false v (m % n) _ (by omega) (Qd.lsz_lt _) W hm)
  obtain ⟨p,c1,rfl,_,_⟩:=hs.parts
  obtain ⟨q,d1,rfl,_,_⟩:=ht.parts
  obtain ⟨a1,ha1⟩ : ∃ a,Qd.lsz m = a:=⟨_,rfl⟩
  obtain ⟨a2,ha2⟩ : ∃ a,Qd.lsz n = a:=⟨_,rfl⟩
  rw [ha1,ha2] at C1 ⊢
  obtain ⟨z,hz⟩ : ∃ z,((true != b) && !decide (m / n = 0)) = z:=⟨_,rfl⟩
  have hz2 : ((!b) && !decide (m / n = 0)) = z:=by rw [<- hz];cases b <;> rfl
  rw [hz2] at C2
  rw [hz]
  obtain ⟨Q,hQ⟩ : ∃ Q,m / n = Q:=⟨_,rfl⟩
  obtain ⟨R,hR⟩ : ∃ R,m % n = R:=⟨_,rfl⟩
  rw [hQ,hR] at C1
  rw [hQ] at C2 hl1 ⊢
  rw [hR] at C3 hl2 ⊢
  rw [hR] at hr
  have dR : decide ((0 : Int) < ((Qd.lsz R : Nat) : Int)) = false:=by rw [hr,Qd.lsz_zero];rfl
  have dR2 : decide (0 < Qd.lsz R) = false:=by rw [hr,Qd.lsz_zero];rfl
  clear hr
  clear hs ht h1 h2 ha1 ha2 hz hz2 hQ hR hn
  obtain ⟨⟨⟨k00,k01⟩,⟨k10,k11⟩⟩,⟨⟨k20,k21⟩,⟨k30,k31⟩⟩,⟨⟨f20,f21⟩,⟨f30,f31⟩⟩,ksz⟩:=cells4 w (.bool true) (.slice p a1 c1) (.bool b) (.slice q a2 d1) (.bool false) (.slice none 0 0) (.bool false) (.slice none 0 0) 74
  go_enter Tryz.func91,Tryz.ntmps91
  go_wp2_with (first
    | (go_at_call 158;(with_reducible refine (C1.out _ (by repeat' first | exact Below.refl _ _ | assumption | refine Below.setCell ?_ ?_ _ | refine Below.alloc ?_ ?_ _ | refine below_drewN ?_ | refine Below.drew ?_ | (simp;done) | (simp;omega))).mono ?_);rintro e w2 ⟨v2,u2,rfl,hv2,hu2,hb2⟩;obtain ⟨p2,c2,rfl,_,_⟩:=hv2.parts;obtain ⟨p3,c3,rfl,_,_⟩:=hu2.parts;have m00:=cell_kept k00 hb2;have m01:=cell_kept k01 hb2;have m10:=cell_kept k10 hb2;have m11:=cell_kept k11 hb2;have m20:=cell_kept k20 hb2;have m21:=cell_kept k21 hb2;have m30:=cell_kept k30 hb2;have m31:=cell_kept k31 hb2;have g20:=frozen_kept f20 hb2 (by rw [ksz];simp;try omega);have g21:=frozen_kept f21 hb2 (by rw [ksz];simp;try omega);have g30:=frozen_kept f30 hb2 (by rw [ksz];simp;try omega);have g31:=frozen_kept f31 hb2 (by rw [ksz];simp;try omega);have hs2:=hb2.size;rw [ksz] at hs2;have hlow2:=Below.trans (a:=w) (B:=w.heap.size) (by repeat' first | exact Below.refl _ _ | assumption | refine Below.setCell ?_ ?_ _ | refine Below.alloc ?_ ?_ _ | refine below_drewN ?_ | refine Below.drew ?_ | (simp;done) | (simp;omega)) (Below.mono hb2 (Below.size (B:=w.heap.size) (w:=w) (by repeat' first | exact Below.refl _ _ | assumption | refine Below.setCell ?_ ?_ _ | refine Below.alloc ?_ ?_ _ | refine below_drewN ?_ | refine Below.drew ?_ | (simp;done) | (simp;omega)))))
    | (go_at_call 144;(with_reducible refine (C2.out _ _ hv2).mono ?_);rintro e w3 ⟨v3,rfl,hv3,hb3⟩;obtain ⟨p4,c4,rfl,_,_⟩:=hv3.parts;have o00:=cell_kept m00 hb3;have o01:=cell_kept m01 hb3;have o10:=cell_kept m10 hb3;have o11:=cell_kept m11 hb3;have o20:=cell_kept m20 hb3;have o21:=cell_kept m21 hb3;have o30:=cell_kept m30 hb3;have o31:=cell_kept m31 hb3;have e20:=frozen_kept g20 hb3 (by simp;omega);have e21:=frozen_kept g21 hb3 (by simp;omega);have e30:=frozen_kept g30 hb3 (by simp;omega);have e31:=frozen_kept g31 hb3 (by simp;omega);have hs3:=hb3.size;have hu3:=hu2.keep hb3;have hlow3:=Below.trans hlow2 (Below.mono hb3 (Below.size hlow2));have hb4 : Below w3.heap.size w3 ((w3.alloc (.cells #[.bool z,.slice p4 (Qd.lsz Q) c4] 74)).alloc (.cells #[.bool false,.slice p3 (Qd.lsz R) c3] 74)):=(by repeat' first | exact Below.refl _ _ | assumption | refine Below.setCell ?_ ?_ _ | refine Below.alloc ?_ ?_ _ | refine below_drewN ?_ | refine Below.drew ?_ | (simp;done) | (simp;omega));have q00:=cell_kept o00 hb4;have q01:=cell_kept o01 hb4;have q10:=cell_kept o10 hb4;have q11:=cell_kept o11 hb4;have q20:=cell_kept o20 hb4;have q21:=cell_kept o21 hb4;have q30:=cell_kept o30 hb4;have q31:=cell_kept o31 hb4;have r20:=frozen_kept e20 hb4 (by simp;omega);have r21:=frozen_kept e21 hb4 (by simp;omega);have r30:=frozen_kept e30 hb4 (by simp;omega);have r31:=frozen_kept e31 hb4 (by simp;omega);obtain ⟨⟨t80,t81⟩,⟨t90,t91⟩,_,_⟩:=cells2 w3 (.bool z) (.slice p4 (Qd.lsz Q) c4) (.bool false) (.slice p3 (Qd.lsz R) c3) 74 74;have hlow4:=Below.trans hlow3 (Below.mono hb4 (Below.size hlow3));have hs4 : ((w3.alloc (.cells #[.bool z,.slice p4 (Qd.lsz Q) c4] 74)).alloc (.cells #[.bool false,.slice p3 (Qd.lsz R) c3] 74)).heap.size = w3.heap.size + 1 + 1:=(by simp)))
  have hu4:=hu3.keep hb4
  have t8n : w3.heap.size ≠ w.heap.size + 1 + 1:=by omega
  have t8m : w3.heap.size ≠ w.heap.size + 1 + 1 + 1:=by omega
  have t9n : w3.heap.size + 1 ≠ w.heap.size + 1 + 1:=by omega
  have t9m : w3.heap.size + 1 ≠ w.heap.size + 1 + 1 + 1:=by omega
  go_region_held3 (fun w'=>w'.cell? ⟨w3.heap.size,0,none⟩ = some (.bool z)/\w'.cell? ⟨w3.heap.size,1,none⟩ = some (.slice p4 (Qd.lsz Q) c4)/\w'.cell? ⟨w3.heap.size + 1,0,none⟩ = some (.bool false)/\w'.cell? ⟨w3.heap.size + 1,1,none⟩ = some (.slice p3 (Qd.lsz R) c3)) (first | exact ⟨t80,t81,t90,t91⟩ | exact ⟨s80,s81,s90,s91⟩ | exact ⟨cell_set (cell_set s80 t8n) t8n,cell_set (cell_set s81 t8n) t8n,cell_set (cell_set s90 t9n) t9n,cell_set (cell_set s91 t9n) t9n⟩ | exact ⟨cell_set (cell_set (cell_set (cell_set s80 t8n) t8n) t8m) t8m,cell_set (cell_set (cell_set (cell_set s81 t8n) t8n) t8m) t8m,cell_set (cell_set (cell_set (cell_set s90 t9n) t9n) t9m) t9m,cell_set (cell_set (cell_set (cell_set s91 t9n) t9n) t9m) t9m⟩ | go_keep)
    (first | (go_at_call 144;(with_reducible refine (C3.out _ _ (by exact hu3.keep (by repeat' first | exact Below.refl _ _ | assumption | refine Below.setCell ?_ ?_ _ | refine Below.alloc ?_ ?_ _ | refine below_drewN ?_ | refine Below.drew ?_ | (simp;done) | (simp;omega)))).mono ?_);rintro e w5 ⟨v5,rfl,hv5,hb5⟩;obtain ⟨p5,c5,rfl,_,_⟩:=hv5.parts;have s80:=cell_kept (p:=⟨w3.heap.size,0,none⟩) (v:=.bool z) (by exact t80) hb5;have s81:=cell_kept (p:=⟨w3.heap.size,1,none⟩) (v:=.slice p4 (Qd.lsz Q) c4) (by exact t81) hb5;have s90:=cell_kept (p:=⟨w3.heap.size + 1,0,none⟩) (v:=.bool false) (by exact t90) hb5;have s91:=cell_kept (p:=⟨w3.heap.size + 1,1,none⟩) (v:=.slice p3 (Qd.lsz R) c3) (by exact t91) hb5;have s20:=cell_kept (p:=⟨w.heap.size + 1 + 1,0,none⟩) (v:=.bool false) (by exact q20) hb5;have s21:=cell_kept (p:=⟨w.heap.size + 1 + 1,1,none⟩) (v:=.slice none 0 0) (by exact q21) hb5;have s30:=cell_kept (p:=⟨w.heap.size + 1 + 1 + 1,0,none⟩) (v:=.bool false) (by exact q30) hb5;have s31:=cell_kept (p:=⟨w.heap.size + 1 + 1 + 1,1,none⟩) (v:=.slice none 0 0) (by exact q31) hb5;have sf20:=frozen_kept (p:=⟨w.heap.size + 1 + 1,0,none⟩) (b:=false) (by exact r20) hb5 (by have:=hs4;simp at this ⊢;omega);have sf21:=frozen_kept (p:=⟨w.heap.size + 1 + 1,1,none⟩) (b:=false) (by exact r21) hb5 (by have:=hs4;simp at this ⊢;omega);have sf30:=frozen_kept (p:=⟨w.heap.size + 1 + 1 + 1,0,none⟩) (b:=false) (by exact r30) hb5 (by have:=hs4;simp at this ⊢;omega);have sf31:=frozen_kept (p:=⟨w.heap.size + 1 + 1 + 1,1,none⟩) (b:=false) (by exact r31) hb5 (by have:=hs4;simp at this ⊢;omega);have hv4:=hv3.keep hb4;have hb5' : Below w3.heap.size w3 w5:=Below.trans (B:=w3.heap.size) (by repeat' first | exact Below.refl _ _ | assumption | refine Below.setCell ?_ ?_ _ | refine Below.alloc ?_ ?_ _ | refine below_drewN ?_ | refine Below.drew ?_ | (simp;done) | (simp;omega)) (Below.mono hb5 (Below.size (B:=w3.heap.size) (w:=w3) (by repeat' first | exact Below.refl _ _ | assumption | refine Below.setCell ?_ ?_ _ | refine Below.alloc ?_ ?_ _ | refine below_drewN ?_ | refine Below.drew ?_ | (simp;done) | (simp;omega))));have hv5q:=hv3.keep hb5';have hlow5:=hlow3.trans (hb5'.mono hlow3.size);have hs5:=hb5'.size))
  go_wp2_with fail
  have hne23 : w.heap.size + 1 + 1 + 1 ≠ w.heap.size + 1 + 1:=by omega
  have u30:=cell_set (a:=⟨w.heap.size + 1 + 1,1,none⟩) (u:=.slice p4 (Qd.lsz Q) c4) (cell_set (a:=⟨w.heap.size + 1 + 1,0,none⟩) (u:=.bool z) s30 hne23) hne23
  refine ret74_2 Tryz.results91 _ _ rfl rfl (.bool z) (.slice p4 (Qd.lsz Q) c4) (.bool false) (.slice p5 (Qd.lsz R) c5) (by go_simp) (by go_simp) (by go_simp) (by go_simp) rfl ?_
  exact ⟨_,_,rfl,Mg.set2 (Mg.set2 hv5q s20 _ _) u30 _ _,Mg.set2 (Mg.set2 hv5 s20 _ _) u30 _ _,(by repeat' first | exact Below.refl _ _ | assumption | refine Below.setCell ?_ ?_ _ | refine Below.alloc ?_ ?_ _ | refine below_drewN ?_ | refine Below.drew ?_ | (simp;done) | (simp;omega))⟩
end
section
open Go.RowKit
open Qd (lims)
set_option maxHeartbeats 4000000 in
set_option maxRecDepth 100000 in
theorem refOver_up (s t : Value) (m n : Nat) (hn : 0 < n) (hr : m % n ≠ 0) (h1 : Qd.lsz m <= 5000) (h2 : Qd.lsz n <= 5000) (w : World) (hs : Mags w s m) (ht : Mags w t n) :
    Calls Tryz.prog 91 #[.agg #[.bool true,s],.agg #[.bool true,t]] w fun e w'=>∃ v u,e = .returned (.tuple #[v,.agg #[.bool false,u]])/\BigAt w' v (((m / n : Nat) : Int) + 1)/\Mags w' u (n - m % n)/\Below w.heap.size w w':=by
  have C1:=Lib.hid (fun W (hb : Below w.heap.size w W)=>refOverM_any s t m n hn h1 h2 W (hs.keep hb) (ht.keep hb))
  have hl1 : Qd.lsz (m / n) <= 5000:=Nat.le_trans (Qd.lsz_mono (Nat.div_le_self m n)) h1
  have hl2 : Qd.lsz (m % n) <= 5000:=Nat.le_trans (Qd.lsz_mono (Nat.mod_le m n)) h1
  have C2:=Lib.hid (fun W v (hm : Mags W v (m / n))=>refTrim_any false v (m / n) _ (by omega) (Qd.lsz_lt _) W hm)
  have hrl:=Nat.mod_lt m hn
  have hl3 : Qd.lsz (n - m % n) <= 5000:=Nat.le_trans (Qd.lsz_mono (Nat.sub_le _ _)) h2
  have C3:=Lib.hid (fun W v (hm : Mags W v (n - m % n))=>refTrim_any false v (n - m % n) _ (by omega) (Qd.lsz_lt _) W hm)
  have C4:=Lib.hid (fun W v (hb : Below w.heap.size w W) (hm : Mags W v (m % n))=>refMinusM_any t v n (m % n) (Nat.le_of_lt hrl) (by omega) W (ht.keep hb) hm)
  have C5:=Lib.hid (fun W=>refSmall_any 1 (by omega) (by omega) W)
  have C6:=Lib.hid (fun W x y (g1 : BigAt W x ((m / n : Nat) : Int)) (g2 : BigAt W y 1)=>refPlus_any x y ((m / n : Nat) : Int) 1 (by rw [abs_up (m / n)];omega) (by have:=Qd.lsz_mono (show (1 : Int).natAbs <= 1 from Nat.le_refl _);have h1 : Qd.lsz 1 = 1:=lsz_digit 1 (by omega) (by omega);omega) W g1 g2)
  have hbig:=Lib.hid (fun W v (hm : Mags W v (m / n))=>show BigAt W (.agg #[.bool (false && !decide (m / n = 0)),v]) ((m / n : Nat) : Int) from ⟨v,by rw [sgn_up (m / n)],by rw [abs_up (m / n)];exact hm⟩)
  obtain ⟨p,c1,rfl,_,_⟩:=hs.parts
  obtain ⟨q,d1,rfl,_,_⟩:=ht.parts
  obtain ⟨a1,ha1⟩ : ∃ a,Qd.lsz m = a:=⟨_,rfl⟩
  obtain ⟨a2,ha2⟩ : ∃ a,Qd.lsz n = a:=⟨_,rfl⟩
  rw [ha1,ha2] at C1 ⊢
  obtain ⟨z,hz2⟩ : ∃ z,(false && !decide (m / n = 0)) = z:=⟨_,rfl⟩
  rw [hz2] at C2 hbig
  obtain ⟨G,hG⟩ : ∃ G,((m / n : Nat) : Int) + 1 = G:=⟨_,rfl⟩
  have hG2:=hG
  rw [hG] at C6 ⊢
  obtain ⟨Q,hQ⟩ : ∃ Q,m / n = Q:=⟨_,rfl⟩
  obtain ⟨R,hR⟩ : ∃ R,m % n = R:=⟨_,rfl⟩
  rw [hQ,hR] at C1
  rw [hQ] at C2 hl1 C6 hbig
  rw [hR] at C3 C4 hl2 hl3 hr ⊢
  have hk0 : Qd.lsz R ≠ 0:=fun e=>hr (Qd.lsz_eq_zero.1 e)
  have dR : decide ((0 : Int) < ((Qd.lsz R : Nat) : Int)) = true:=by simp;omega
  have dR2 : decide (0 < Qd.lsz R) = true:=by simp;omega
  obtain ⟨M,hM⟩ : ∃ M,n - R = M:=⟨_,rfl⟩
  rw [hM] at C3 C4 hl3 ⊢
  rw [ha2] at C4
  clear hs ht h1 h2 ha1 ha2 hz2 hQ hR hn hG hG2 hM hr hrl hk0
  obtain ⟨⟨⟨k00,k01⟩,⟨k10,k11⟩⟩,⟨⟨k20,k21⟩,⟨k30,k31⟩⟩,⟨⟨f20,f21⟩,⟨f30,f31⟩⟩,ksz⟩:=cells4 w (.bool true) (.slice p a1 c1) (.bool true) (.slice q a2 d1) (.bool false) (.slice none 0 0) (.bool false) (.slice none 0 0) 74
  go_enter Tryz.func91,Tryz.ntmps91
  go_wp2_with (first
    | (go_at_call 158;(with_reducible refine (C1.out _ (by repeat' first | exact Below.refl _ _ | assumption | refine Below.setCell ?_ ?_ _ | refine Below.alloc ?_ ?_ _ | refine below_drewN ?_ | refine Below.drew ?_ | (simp;done) | (simp;omega))).mono ?_);rintro e w2 ⟨v2,u2,rfl,hv2,hu2,hb2⟩;obtain ⟨p2,c2,rfl,_,_⟩:=hv2.parts;obtain ⟨p3,c3,rfl,_,_⟩:=hu2.parts;have m00:=cell_kept k00 hb2;have m01:=cell_kept k01 hb2;have m10:=cell_kept k10 hb2;have m11:=cell_kept k11 hb2;have m20:=cell_kept k20 hb2;have m21:=cell_kept k21 hb2;have m30:=cell_kept k30 hb2;have m31:=cell_kept k31 hb2;have g20:=frozen_kept f20 hb2 (by rw [ksz];simp;try omega);have g21:=frozen_kept f21 hb2 (by rw [ksz];simp;try omega);have g30:=frozen_kept f30 hb2 (by rw [ksz];simp;try omega);have g31:=frozen_kept f31 hb2 (by rw [ksz];simp;try omega);have hs2:=hb2.size;rw [ksz] at hs2;have hlow2:=Below.trans (a:=w) (B:=w.heap.size) (by repeat' first | exact Below.refl _ _ | assumption | refine Below.setCell ?_ ?_ _ | refine Below.alloc ?_ ?_ _ | refine below_drewN ?_ | refine Below.drew ?_ | (simp;done) | (simp;omega)) (Below.mono hb2 (Below.size (B:=w.heap.size) (w:=w) (by repeat' first | exact Below.refl _ _ | assumption | refine Below.setCell ?_ ?_ _ | refine Below.alloc ?_ ?_ _ | refine below_drewN ?_ | refine Below.drew ?_ | (simp;done) | (simp;omega)))))
    | (go_at_call 144;(with_reducible refine (C2.out _ _ hv2).mono ?_);rintro e w3 ⟨v3,rfl,hv3,hb3⟩;obtain ⟨p4,c4,rfl,_,_⟩:=hv3.parts;have o00:=cell_kept m00 hb3;have o01:=cell_kept m01 hb3;have o10:=cell_kept m10 hb3;have o11:=cell_kept m11 hb3;have o20:=cell_kept m20 hb3;have o21:=cell_kept m21 hb3;have o30:=cell_kept m30 hb3;have o31:=cell_kept m31 hb3;have e20:=frozen_kept g20 hb3 (by simp;omega);have e21:=frozen_kept g21 hb3 (by simp;omega);have e30:=frozen_kept g30 hb3 (by simp;omega);have e31:=frozen_kept g31 hb3 (by simp;omega);have hs3:=hb3.size;have hu3:=hu2.keep hb3;have hlow3:=Below.trans hlow2 (Below.mono hb3 (Below.size hlow2));have hb4 : Below w3.heap.size w3 ((w3.alloc (.cells #[.bool z,.slice p4 (Qd.lsz Q) c4] 74)).alloc (.cells #[.bool false,.slice p3 (Qd.lsz R) c3] 74)):=(by repeat' first | exact Below.refl _ _ | assumption | refine Below.setCell ?_ ?_ _ | refine Below.alloc ?_ ?_ _ | refine below_drewN ?_ | refine Below.drew ?_ | (simp;done) | (simp;omega));have q00:=cell_kept o00 hb4;have q01:=cell_kept o01 hb4;have q10:=cell_kept o10 hb4;have q11:=cell_kept o11 hb4;have q20:=cell_kept o20 hb4;have q21:=cell_kept o21 hb4;have q30:=cell_kept o30 hb4;have q31:=cell_kept o31 hb4;have r20:=frozen_kept e20 hb4 (by simp;omega);have r21:=frozen_kept e21 hb4 (by simp;omega);have r30:=frozen_kept e30 hb4 (by simp;omega);have r31:=frozen_kept e31 hb4 (by simp;omega);obtain ⟨⟨t80,t81⟩,⟨t90,t91⟩,_,_⟩:=cells2 w3 (.bool z) (.slice p4 (Qd.lsz Q) c4) (.bool false) (.slice p3 (Qd.lsz R) c3) 74 74;have hlow4:=Below.trans hlow3 (Below.mono hb4 (Below.size hlow3));have hs4 : ((w3.alloc (.cells #[.bool z,.slice p4 (Qd.lsz Q) c4] 74)).alloc (.cells #[.bool false,.slice p3 (Qd.lsz R) c3] 74)).heap.size = w3.heap.size + 1 + 1:=(by simp))
    | (go_at_call 150;(with_reducible refine (C4.out _ _ hlow4 (hu3.keep hb4)).mono ?_);rintro e w5 ⟨v5,rfl,hv5,hb5⟩;obtain ⟨p5,c5,rfl,_,_⟩:=hv5.parts;have x00:=cell_kept q00 hb5;have x01:=cell_kept q01 hb5;have x10:=cell_kept q10 hb5;have x11:=cell_kept q11 hb5;have x20:=cell_kept q20 hb5;have x21:=cell_kept q21 hb5;have x30:=cell_kept q30 hb5;have x31:=cell_kept q31 hb5;have y20:=frozen_kept r20 hb5 (by rw [hs4];simp;omega);have y21:=frozen_kept r21 hb5 (by rw [hs4];simp;omega);have y30:=frozen_kept r30 hb5 (by rw [hs4];simp;omega);have y31:=frozen_kept r31 hb5 (by rw [hs4];simp;omega);have x80:=cell_kept t80 hb5;have x81:=cell_kept t81 hb5;have x90:=cell_kept t90 hb5;have x91:=cell_kept t91 hb5;have y80:=frozen_kept (p:=⟨w3.heap.size,0,none⟩) (b:=false) (by go_simp) hb5 (by rw [hs4];simp;omega);have y81:=frozen_kept (p:=⟨w3.heap.size,1,none⟩) (b:=false) (by go_simp) hb5 (by rw [hs4];simp;omega);have y90:=frozen_kept (p:=⟨w3.heap.size + 1,0,none⟩) (b:=false) (by go_simp) hb5 (by rw [hs4];simp);have y91:=frozen_kept (p:=⟨w3.heap.size + 1,1,none⟩) (b:=false) (by go_simp) hb5 (by rw [hs4];simp);have hlow5:=hlow4.trans (hb5.mono hlow4.size);have hs5:=hb5.size;rw [hs4] at hs5;have hq5:=(hv3.keep hb4).keep hb5;have N1 : ¬ (w3.heap.size + 1 = w.heap.size + 1):=(by omega)))
  have d89 : w3.heap.size ≠ w3.heap.size + 1:=by omega
  have d29 : w.heap.size + 1 + 1 ≠ w3.heap.size + 1:=by omega
  have d39 : w.heap.size + 1 + 1 + 1 ≠ w3.heap.size + 1:=by omega
  have X80 : ((w5.setCell ⟨w3.heap.size + 1,0,none⟩ (.bool false)).setCell ⟨w3.heap.size + 1,1,none⟩ (.slice p5 (Qd.lsz M) c5)).cell? ⟨w3.heap.size,0,none⟩ = some (.bool z):=cell_set (cell_set x80 d89) d89
  have X81 : ((w5.setCell ⟨w3.heap.size + 1,0,none⟩ (.bool false)).setCell ⟨w3.heap.size + 1,1,none⟩ (.slice p5 (Qd.lsz M) c5)).cell? ⟨w3.heap.size,1,none⟩ = some (.slice p4 (Qd.lsz Q) c4):=cell_set (cell_set x81 d89) d89
  have X90 : ((w5.setCell ⟨w3.heap.size + 1,0,none⟩ (.bool false)).setCell ⟨w3.heap.size + 1,1,none⟩ (.slice p5 (Qd.lsz M) c5)).cell? ⟨w3.heap.size + 1,0,none⟩ = some (.bool false):=by go_simp
  have X91 : ((w5.setCell ⟨w3.heap.size + 1,0,none⟩ (.bool false)).setCell ⟨w3.heap.size + 1,1,none⟩ (.slice p5 (Qd.lsz M) c5)).cell? ⟨w3.heap.size + 1,1,none⟩ = some (.slice p5 (Qd.lsz M) c5):=by go_simp
  have X20 : ((w5.setCell ⟨w3.heap.size + 1,0,none⟩ (.bool false)).setCell ⟨w3.heap.size + 1,1,none⟩ (.slice p5 (Qd.lsz M) c5)).cell? ⟨w.heap.size + 1 + 1,0,none⟩ = some (.bool false):=cell_set (cell_set x20 d29) d29
  have X21 : ((w5.setCell ⟨w3.heap.size + 1,0,none⟩ (.bool false)).setCell ⟨w3.heap.size + 1,1,none⟩ (.slice p5 (Qd.lsz M) c5)).cell? ⟨w.heap.size + 1 + 1,1,none⟩ = some (.slice none 0 0):=cell_set (cell_set x21 d29) d29
  have X30 : ((w5.setCell ⟨w3.heap.size + 1,0,none⟩ (.bool false)).setCell ⟨w3.heap.size + 1,1,none⟩ (.slice p5 (Qd.lsz M) c5)).cell? ⟨w.heap.size + 1 + 1 + 1,0,none⟩ = some (.bool false):=cell_set (cell_set x30 d39) d39
  have X31 : ((w5.setCell ⟨w3.heap.size + 1,0,none⟩ (.bool false)).setCell ⟨w3.heap.size + 1,1,none⟩ (.slice p5 (Qd.lsz M) c5)).cell? ⟨w.heap.size + 1 + 1 + 1,1,none⟩ = some (.slice none 0 0):=cell_set (cell_set x31 d39) d39
  have Y20 : ((w5.setCell ⟨w3.heap.size + 1,0,none⟩ (.bool false)).setCell ⟨w3.heap.size + 1,1,none⟩ (.slice p5 (Qd.lsz M) c5)).frozen? ⟨w.heap.size + 1 + 1,0,none⟩ = false:=set_frozen (set_frozen y20)
  have Y21 : ((w5.setCell ⟨w3.heap.size + 1,0,none⟩ (.bool false)).setCell ⟨w3.heap.size + 1,1,none⟩ (.slice p5 (Qd.lsz M) c5)).frozen? ⟨w.heap.size + 1 + 1,1,none⟩ = false:=set_frozen (set_frozen y21)
  have Y30 : ((w5.setCell ⟨w3.heap.size + 1,0,none⟩ (.bool false)).setCell ⟨w3.heap.size + 1,1,none⟩ (.slice p5 (Qd.lsz M) c5)).frozen? ⟨w.heap.size + 1 + 1 + 1,0,none⟩ = false:=set_frozen (set_frozen y30)
  have Y31 : ((w5.setCell ⟨w3.heap.size + 1,0,none⟩ (.bool false)).setCell ⟨w3.heap.size + 1,1,none⟩ (.slice p5 (Qd.lsz M) c5)).frozen? ⟨w.heap.size + 1 + 1 + 1,1,none⟩ = false:=set_frozen (set_frozen y31)
  have Y80 : ((w5.setCell ⟨w3.heap.size + 1,0,none⟩ (.bool false)).setCell ⟨w3.heap.size + 1,1,none⟩ (.slice p5 (Qd.lsz M) c5)).frozen? ⟨w3.heap.size,0,none⟩ = false:=set_frozen (set_frozen y80)
  have Y81 : ((w5.setCell ⟨w3.heap.size + 1,0,none⟩ (.bool false)).setCell ⟨w3.heap.size + 1,1,none⟩ (.slice p5 (Qd.lsz M) c5)).frozen? ⟨w3.heap.size,1,none⟩ = false:=set_frozen (set_frozen y81)
  have hq6 : BigAt ((w5.setCell ⟨w3.heap.size + 1,0,none⟩ (.bool false)).setCell ⟨w3.heap.size + 1,1,none⟩ (.slice p5 (Qd.lsz M) c5)) (.agg #[.bool z,.slice p4 (Qd.lsz Q) c4]) (((Q : Nat) : Int)):=hbig.out _ _ (Mg.set2 hq5 x90 _ _)
  have hm6 : Mags ((w5.setCell ⟨w3.heap.size + 1,0,none⟩ (.bool false)).setCell ⟨w3.heap.size + 1,1,none⟩ (.slice p5 (Qd.lsz M) c5)) (.slice p5 (Qd.lsz M) c5) M:=Mg.set2 hv5 x90 _ _
  have hlow6 : Below w.heap.size w ((w5.setCell ⟨w3.heap.size + 1,0,none⟩ (.bool false)).setCell ⟨w3.heap.size + 1,1,none⟩ (.slice p5 (Qd.lsz M) c5)):=(hlow5.setCell (p:=⟨w3.heap.size + 1,0,none⟩) (by simp;omega) _).setCell (p:=⟨w3.heap.size + 1,1,none⟩) (by simp;omega) _
  have hs6 : ((w5.setCell ⟨w3.heap.size + 1,0,none⟩ (.bool false)).setCell ⟨w3.heap.size + 1,1,none⟩ (.slice p5 (Qd.lsz M) c5)).heap.size = w5.heap.size:=by simp
  generalize ((w5.setCell ⟨w3.heap.size + 1,0,none⟩ (.bool false)).setCell ⟨w3.heap.size + 1,1,none⟩ (.slice p5 (Qd.lsz M) c5)) = W6 at *
  clear x00 x01 x10 x11 x20 x21 x30 x31 x80 x81 x90 x91 y20 y21 y30 y31 y80 y81 y90 y91 o00 o01 o10 o11 o20 o21 o30 o31 q00 q01 q10 q11 q20 q21 q30 q31 m00 m01 m10 m11 m20 m21 m30 m31 k00 k01 k10 k11 k20 k21 k30 k31 f20 f21 f30 f31 g20 g21 g30 g31 e20 e21 e30 e31 r20 r21 r30 r31 t80 t81 t90 t91 hq5 hv5 hb5 hb4 hb3 hb2 hlow5 hlow4 hlow3 hlow2 hu3 hv3 hv2 hu2 N1 hbig C1 C2 C4
  go_region_with (first
    | (go_at_call 68;(with_reducible refine (C5.out _).mono ?_);rintro e w7 ⟨v7,rfl,hv7,hb7⟩;obtain ⟨b7,p7,k7,c7,rfl⟩:=hv7.shape;have hb7q:=Below.trans (a:=W6) (B:=W6.heap.size) (by repeat' first | exact Below.refl _ _ | assumption | refine Below.setCell ?_ ?_ _ | refine Below.alloc ?_ ?_ _ | refine below_drewN ?_ | refine Below.drew ?_ | (simp;done) | (simp;omega)) (Below.mono hb7 (Below.size (B:=W6.heap.size) (w:=W6) (by repeat' first | exact Below.refl _ _ | assumption | refine Below.setCell ?_ ?_ _ | refine Below.alloc ?_ ?_ _ | refine below_drewN ?_ | refine Below.drew ?_ | (simp;done) | (simp;omega))));have hq7:=hq6.keep hb7q;have z80:=cell_kept X80 hb7q;have z81:=cell_kept X81 hb7q;have zf80:=frozen_kept Y80 hb7q (by rw [hs6];simp;omega);have zf81:=frozen_kept Y81 hb7q (by rw [hs6];simp;omega);have hs7:=hb7q.size)
    | (go_at_call 80;(with_reducible refine (C6.out _ _ _ hq7 hv7).mono ?_);rintro e w8 ⟨v8,rfl,hv8,hb8⟩;obtain ⟨b8,p8,k8,c8,rfl⟩:=hv8.shape;have a80:=cell_kept z80 hb8;have a81:=cell_kept z81 hb8;have af80:=frozen_kept zf80 hb8 (by simp;omega);have af81:=frozen_kept zf81 hb8 (by simp;omega);have hb8q:=hb7q.trans (hb8.mono hb7q.size);have hs8:=hb8q.size))
  all_goals
    go_wp2_with fail
    have d98 : w3.heap.size + 1 ≠ w3.heap.size:=by omega
    have d28 : w.heap.size + 1 + 1 ≠ w3.heap.size:=by omega
    have d38 : w.heap.size + 1 + 1 + 1 ≠ w3.heap.size:=by omega
    have T80 : ((w8.setCell ⟨w3.heap.size,0,none⟩ (.bool b8)).setCell ⟨w3.heap.size,1,none⟩ (.slice p8 k8 c8)).cell? ⟨w3.heap.size,0,none⟩ = some (.bool b8):=by go_simp
    have T81 : ((w8.setCell ⟨w3.heap.size,0,none⟩ (.bool b8)).setCell ⟨w3.heap.size,1,none⟩ (.slice p8 k8 c8)).cell? ⟨w3.heap.size,1,none⟩ = some (.slice p8 k8 c8):=by go_simp
    have T90:=cell_set (a:=⟨w3.heap.size,1,none⟩) (u:=.slice p8 k8 c8) (cell_set (a:=⟨w3.heap.size,0,none⟩) (u:=.bool b8) (cell_kept X90 hb8q) d98) d98
    have T91:=cell_set (a:=⟨w3.heap.size,1,none⟩) (u:=.slice p8 k8 c8) (cell_set (a:=⟨w3.heap.size,0,none⟩) (u:=.bool b8) (cell_kept X91 hb8q) d98) d98
    have Z20:=cell_set (a:=⟨w3.heap.size,1,none⟩) (u:=.slice p8 k8 c8) (cell_set (a:=⟨w3.heap.size,0,none⟩) (u:=.bool b8) (cell_kept X20 hb8q) d28) d28
    have Z21:=cell_set (a:=⟨w3.heap.size,1,none⟩) (u:=.slice p8 k8 c8) (cell_set (a:=⟨w3.heap.size,0,none⟩) (u:=.bool b8) (cell_kept X21 hb8q) d28) d28
    have Z30:=cell_set (a:=⟨w3.heap.size,1,none⟩) (u:=.slice p8 k8 c8) (cell_set (a:=⟨w3.heap.size,0,none⟩) (u:=.bool b8) (cell_kept X30 hb8q) d38) d38
    have Z31:=cell_set (a:=⟨w3.heap.size,1,none⟩) (u:=.slice p8 k8 c8) (cell_set (a:=⟨w3.heap.size,0,none⟩) (u:=.bool b8) (cell_kept X31 hb8q) d38) d38
    have G20 : ((w8.setCell ⟨w3.heap.size,0,none⟩ (.bool b8)).setCell ⟨w3.heap.size,1,none⟩ (.slice p8 k8 c8)).frozen? ⟨w.heap.size + 1 + 1,0,none⟩ = false:=set_frozen (set_frozen (frozen_kept Y20 hb8q (by rw [hs6];simp;omega)))
    have G21 : ((w8.setCell ⟨w3.heap.size,0,none⟩ (.bool b8)).setCell ⟨w3.heap.size,1,none⟩ (.slice p8 k8 c8)).frozen? ⟨w.heap.size + 1 + 1,1,none⟩ = false:=set_frozen (set_frozen (frozen_kept Y21 hb8q (by rw [hs6];simp;omega)))
    have G30 : ((w8.setCell ⟨w3.heap.size,0,none⟩ (.bool b8)).setCell ⟨w3.heap.size,1,none⟩ (.slice p8 k8 c8)).frozen? ⟨w.heap.size + 1 + 1 + 1,0,none⟩ = false:=set_frozen (set_frozen (frozen_kept Y30 hb8q (by rw [hs6];simp;omega)))
    have G31 : ((w8.setCell ⟨w3.heap.size,0,none⟩ (.bool b8)).setCell ⟨w3.heap.size,1,none⟩ (.slice p8 k8 c8)).frozen? ⟨w.heap.size + 1 + 1 + 1,1,none⟩ = false:=set_frozen (set_frozen (frozen_kept Y31 hb8q (by rw [hs6];simp;omega)))
    have hv9 : BigAt ((w8.setCell ⟨w3.heap.size,0,none⟩ (.bool b8)).setCell ⟨w3.heap.size,1,none⟩ (.slice p8 k8 c8)) (.agg #[.bool b8,.slice p8 k8 c8]) G:=BigAt.set2 hv8 a80 _ _
    have hm9 : Mags ((w8.setCell ⟨w3.heap.size,0,none⟩ (.bool b8)).setCell ⟨w3.heap.size,1,none⟩ (.slice p8 k8 c8)) (.slice p5 (Qd.lsz M) c5) M:=Mg.set2 (hm6.keep hb8q) a80 _ _
    have hlow9 : Below w.heap.size w ((w8.setCell ⟨w3.heap.size,0,none⟩ (.bool b8)).setCell ⟨w3.heap.size,1,none⟩ (.slice p8 k8 c8)):=((hlow6.trans (hb8q.mono hlow6.size)).setCell (p:=⟨w3.heap.size,0,none⟩) (by simp;omega) _).setCell (p:=⟨w3.heap.size,1,none⟩) (by simp;omega) _
    have hs9 : ((w8.setCell ⟨w3.heap.size,0,none⟩ (.bool b8)).setCell ⟨w3.heap.size,1,none⟩ (.slice p8 k8 c8)).heap.size = w8.heap.size:=by simp
    generalize ((w8.setCell ⟨w3.heap.size,0,none⟩ (.bool b8)).setCell ⟨w3.heap.size,1,none⟩ (.slice p8 k8 c8)) = W9 at *
    clear X80 X81 X90 X91 X20 X21 X30 X31 Y20 Y21 Y30 Y31 Y80 Y81 z80 z81 zf80 zf81 a80 a81 af80 af81 hq6 hq7 hv7 hv8 hm6 hb7 hb8 hb7q hb8q C5 C6 hlow6
    have t8n : w3.heap.size ≠ w.heap.size + 1 + 1:=by omega
    have t8m : w3.heap.size ≠ w.heap.size + 1 + 1 + 1:=by omega
    have t9n : w3.heap.size + 1 ≠ w.heap.size + 1 + 1:=by omega
    have t9m : w3.heap.size + 1 ≠ w.heap.size + 1 + 1 + 1:=by omega
    have hlt9 : w3.heap.size + 1 < W9.heap.size:=by omega
    go_region_held3 (fun w'=>w'.cell? ⟨w3.heap.size,0,none⟩ = some (.bool b8)/\w'.cell? ⟨w3.heap.size,1,none⟩ = some (.slice p8 k8 c8)/\w'.cell? ⟨w3.heap.size + 1,0,none⟩ = some (.bool false)/\w'.cell? ⟨w3.heap.size + 1,1,none⟩ = some (.slice p5 (Qd.lsz M) c5)) (first | exact ⟨T80,T81,T90,T91⟩ | exact ⟨s80,s81,s90,s91⟩ | exact ⟨cell_set (cell_set s80 t8n) t8n,cell_set (cell_set s81 t8n) t8n,cell_set (cell_set s90 t9n) t9n,cell_set (cell_set s91 t9n) t9n⟩ | exact ⟨cell_set (cell_set (cell_set (cell_set s80 t8n) t8n) t8m) t8m,cell_set (cell_set (cell_set (cell_set s81 t8n) t8n) t8m) t8m,cell_set (cell_set (cell_set (cell_set s90 t9n) t9n) t9m) t9m,cell_set (cell_set (cell_set (cell_set s91 t9n) t9n) t9m) t9m⟩ | go_keep)
      (first | (go_at_call 144;(with_reducible refine (C3.out _ _ (by exact hm9.keep (by repeat' first | exact Below.refl _ _ | assumption | refine Below.setCell ?_ ?_ _ | refine Below.alloc ?_ ?_ _ | refine below_drewN ?_ | refine Below.drew ?_ | (simp;done) | (simp;omega)))).mono ?_);rintro e wa ⟨va,rfl,hva,hba⟩;obtain ⟨pa,ca,rfl,_,_⟩:=hva.parts;have hbq:=Below.trans (a:=W9) (B:=W9.heap.size) (by repeat' first | exact Below.refl _ _ | assumption | refine Below.setCell ?_ ?_ _ | refine Below.alloc ?_ ?_ _ | refine below_drewN ?_ | refine Below.drew ?_ | (simp;done) | (simp;omega)) (Below.mono hba (Below.size (B:=W9.heap.size) (w:=W9) (by repeat' first | exact Below.refl _ _ | assumption | refine Below.setCell ?_ ?_ _ | refine Below.alloc ?_ ?_ _ | refine below_drewN ?_ | refine Below.drew ?_ | (simp;done) | (simp;omega))));clear hba;have s80:=cell_kept T80 hbq;have s81:=cell_kept T81 hbq;have s90:=cell_kept T90 hbq;have s91:=cell_kept T91 hbq;have s20:=cell_kept Z20 hbq;have s21:=cell_kept Z21 hbq;have s30:=cell_kept Z30 hbq;have s31:=cell_kept Z31 hbq;have sf20:=frozen_kept G20 hbq (by simp;omega);have sf21:=frozen_kept G21 hbq (by simp;omega);have sf30:=frozen_kept G30 hbq (by simp;omega);have sf31:=frozen_kept G31 hbq (by simp;omega);have hva9:=hv9.keep hbq;have hlowa:=hlow9.trans (hbq.mono hlow9.size);have hsa:=hbq.size))
    go_wp2_with fail
    have hne23 : w.heap.size + 1 + 1 + 1 ≠ w.heap.size + 1 + 1:=by omega
    have u30:=cell_set (a:=⟨w.heap.size + 1 + 1,1,none⟩) (u:=.slice p8 k8 c8) (cell_set (a:=⟨w.heap.size + 1 + 1,0,none⟩) (u:=.bool b8) s30 hne23) hne23
    refine ret74_2 Tryz.results91 _ _ rfl rfl (.bool b8) (.slice p8 k8 c8) (.bool false) (.slice pa (Qd.lsz M) ca) (by go_simp) (by go_simp) (by go_simp) (by go_simp) rfl ?_
    exact ⟨_,_,rfl,BigAt.set2 (BigAt.set2 hva9 s20 _ _) u30 _ _,Mg.set2 (Mg.set2 hva s20 _ _) u30 _ _,(by repeat' first | exact Below.refl _ _ | assumption | refine Below.setCell ?_ ?_ _ | refine Below.alloc ?_ ?_ _ | refine below_drewN ?_ | refine Below.drew ?_ | (simp;done) | (simp;omega))⟩
end
end Go.Proofs.YtpbegoflpfdajaaGreatDoor
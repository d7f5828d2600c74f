/- WHAT IS PROVED: contracts of functions of the numbers package and laws for them, used by the last text of this claim. CONDITIONS: stated at each theorem. -/
import Derived.Test.YtpbegoflpfdajaaGreatDoorB41
import Derived.Test.YtpbegoflpfdajaaGreatDoorB42
namespace Go.Proofs.YtpbegoflpfdajaaGreatDoor
section
open Go.RowKit
open Qd (lims)
set_option maxHeartbeats 4000000 in
set_option maxRecDepth 100000 in
theorem refOver_down (s t : Value) (m n : Nat) (hn : 0 < n) (hr : m % n ≠ 0) (h1 : Qd.lsz m <= 5000) (h2 : Qd.lsz n <= 5000) (w : World) (hs : Mags w s m) (ht : Mags w t n) :
    Calls Tryz.prog 91 #[.agg #[.bool true,s],.agg #[.bool false,t]] w fun e w'=>∃ v u,e = .returned (.tuple #[v,.agg #[.bool false,u]])/\BigAt w' v ((-((m / n : Nat) : Int)) - 1)/\Mags w' u (n - m % n)/\Below w.heap.size w w':=by
  have C1:=Lib.hid (fun W (hb : Below w.heap.size w W)=>refOverM_any s t m n hn h1 h2 W (hs.keep hb) (ht.keep hb))
  have hl1 : Qd.lsz (m / n) <= 5000:=Nat.le_trans (Qd.lsz_mono (Nat.div_le_self m n)) h1
  have hl2 : Qd.lsz (m % n) <= 5000:=Nat.le_trans (Qd.lsz_mono (Nat.mod_le m n)) h1
  have C2:=Lib.hid (fun W v (hm : Mags W v (m / n))=>refTrim_any true v (m / n) _ (by omega) (Qd.lsz_lt _) W hm)
  have hrl:=Nat.mod_lt m hn
  have hl3 : Qd.lsz (n - m % n) <= 5000:=Nat.le_trans (Qd.lsz_mono (Nat.sub_le _ _)) h2
  have C3:=Lib.hid (fun W v (hm : Mags W v (n - m % n))=>refTrim_any false v (n - m % n) _ (by omega) (Qd.lsz_lt _) W hm)
  have C4:=Lib.hid (fun W v (hb : Below w.heap.size w W) (hm : Mags W v (m % n))=>refMinusM_any t v n (m % n) (Nat.le_of_lt hrl) (by omega) W (ht.keep hb) hm)
  have C5:=Lib.hid (fun W=>refSmall_any 1 (by omega) (by omega) W)
  have C6:=Lib.hid (fun W x y (g1 : BigAt W x (-((m / n : Nat) : Int))) (g2 : BigAt W y 1)=>refMinus_any x y (-((m / n : Nat) : Int)) 1 (by rw [abs_dn (m / n)];omega) (by have:=Qd.lsz_mono (show (1 : Int).natAbs <= 1 from Nat.le_refl _);have h1 : Qd.lsz 1 = 1:=lsz_digit 1 (by omega) (by omega);omega) W g1 g2)
  have hbig:=Lib.hid (fun W v (hm : Mags W v (m / n))=>show BigAt W (.agg #[.bool (true && !decide (m / n = 0)),v]) (-((m / n : Nat) : Int)) from ⟨v,by rw [sgn_dn (m / n)],by rw [abs_dn (m / n)];exact hm⟩)
  obtain ⟨p,c1,rfl,_,_⟩:=hs.parts
  obtain ⟨q,d1,rfl,_,_⟩:=ht.parts
  obtain ⟨a1,ha1⟩ : ∃ a,Qd.lsz m = a:=⟨_,rfl⟩
  obtain ⟨a2,ha2⟩ : ∃ a,Qd.lsz n = a:=⟨_,rfl⟩
  rw [ha1,ha2] at C1 ⊢
  obtain ⟨z,hz2⟩ : ∃ z,(true && !decide (m / n = 0)) = z:=⟨_,rfl⟩
  rw [hz2] at C2 hbig
  obtain ⟨G,hG⟩ : ∃ G,(-((m / n : Nat) : Int)) - 1 = G:=⟨_,rfl⟩
  have hG2:=hG
  rw [hG] at C6 ⊢
  obtain ⟨Q,hQ⟩ : ∃ Q,m / n = Q:=⟨_,rfl⟩
  obtain ⟨R,hR⟩ : ∃ R,m % n = R:=⟨_,rfl⟩
  rw [hQ,hR] at C1
  rw [hQ] at C2 hl1 C6 hbig
  rw [hR] at C3 C4 hl2 hl3 hr ⊢
  have hk0 : Qd.lsz R ≠ 0:=fun e=>hr (Qd.lsz_eq_zero.1 e)
  have dR : decide ((0 : Int) < ((Qd.lsz R : Nat) : Int)) = true:=by simp;omega
  have dR2 : decide (0 < Qd.lsz R) = true:=by simp;omega
  obtain ⟨M,hM⟩ : ∃ M,n - R = M:=⟨_,rfl⟩
  rw [hM] at C3 C4 hl3 ⊢
  rw [ha2] at C4
  clear hs ht h1 h2 ha1 ha2 hz2 hQ hR hn hG hG2 hM hr hrl hk0
  obtain ⟨⟨⟨k00,k01⟩,⟨k10,k11⟩⟩,⟨⟨k20,k21⟩,⟨k30,k31⟩⟩,⟨⟨f20,f21⟩,⟨f30,f31⟩⟩,ksz⟩:=cells4 w (.bool true) (.slice p a1 c1) (.bool false) (.slice q a2 d1) (.bool false) (.slice none 0 0) (.bool false) (.slice none 0 0) 74
  go_enter Tryz.func91,Tryz.ntmps91
  go_wp2_with (first
    | (go_at_call 158;(with_reducible refine (C1.out _ (by repeat' first | exact Below.refl _ _ | assumption | refine Below.setCell ?_ ?_ _ | refine Below.alloc ?_ ?_ _ | refine below_drewN ?_ | refine Below.drew ?_ | (simp;done) | (simp;omega))).mono ?_);rintro e w2 ⟨v2,u2,rfl,hv2,hu2,hb2⟩;obtain ⟨p2,c2,rfl,_,_⟩:=hv2.parts;obtain ⟨p3,c3,rfl,_,_⟩:=hu2.parts;have m00:=cell_kept k00 hb2;have m01:=cell_kept k01 hb2;have m10:=cell_kept k10 hb2;have m11:=cell_kept k11 hb2;have m20:=cell_kept k20 hb2;have m21:=cell_kept k21 hb2;have m30:=cell_kept k30 hb2;have m31:=cell_kept k31 hb2;have g20:=frozen_kept f20 hb2 (by rw [ksz];simp;try omega);have g21:=frozen_kept f21 hb2 (by rw [ksz];simp;try omega);have g30:=frozen_kept f30 hb2 (by rw [ksz];simp;try omega);have g31:=frozen_kept f31 hb2 (by rw [ksz];simp;try omega);have hs2:=hb2.size;rw [ksz] at hs2;have hlow2:=Below.trans (a:=w) (B:=w.heap.size) (by repeat' first | exact Below.refl _ _ | assumption | refine Below.setCell ?_ ?_ _ | refine Below.alloc ?_ ?_ _ | refine below_drewN ?_ | refine Below.drew ?_ | (simp;done) | (simp;omega)) (Below.mono hb2 (Below.size (B:=w.heap.size) (w:=w) (by repeat' first | exact Below.refl _ _ | assumption | refine Below.setCell ?_ ?_ _ | refine Below.alloc ?_ ?_ _ | refine below_drewN ?_ | refine Below.drew ?_ | (simp;done) | (simp;omega)))))
    | (go_at_call 144;(with_reducible refine (C2.out _ _ hv2).mono ?_);rintro e w3 ⟨v3,rfl,hv3,hb3⟩;obtain ⟨p4,c4,rfl,_,_⟩:=hv3.parts;have o00:=cell_kept m00 hb3;have o01:=cell_kept m01 hb3;have o10:=cell_kept m10 hb3;have o11:=cell_kept m11 hb3;have o20:=cell_kept m20 hb3;have o21:=cell_kept m21 hb3;have o30:=cell_kept m30 hb3;have o31:=cell_kept m31 hb3;have e20:=frozen_kept g20 hb3 (by simp;omega);have e21:=frozen_kept g21 hb3 (by simp;omega);have e30:=frozen_kept g30 hb3 (by simp;omega);have e31:=frozen_kept g31 hb3 (by simp;omega);have hs3:=hb3.size;have hu3:=hu2.keep hb3;have hlow3:=Below.trans hlow2 (Below.mono hb3 (Below.size hlow2));have hb4 : Below w3.heap.size w3 ((w3.alloc (.cells #[.bool z,.slice p4 (Qd.lsz Q) c4] 74)).alloc (.cells #[.bool false,.slice p3 (Qd.lsz R) c3] 74)):=(by repeat' first | exact Below.refl _ _ | assumption | refine Below.setCell ?_ ?_ _ | refine Below.alloc ?_ ?_ _ | refine below_drewN ?_ | refine Below.drew ?_ | (simp;done) | (simp;omega));have q00:=cell_kept o00 hb4;have q01:=cell_kept o01 hb4;have q10:=cell_kept o10 hb4;have q11:=cell_kept o11 hb4;have q20:=cell_kept o20 hb4;have q21:=cell_kept o21 hb4;have q30:=cell_kept o30 hb4;have q31:=cell_kept o31 hb4;have r20:=frozen_kept e20 hb4 (by simp;omega);have r21:=frozen_kept e21 hb4 (by simp;omega);have r30:=frozen_kept e30 hb4 (by simp;omega);have r31:=frozen_kept e31 hb4 (by simp;omega);obtain ⟨⟨t80,t81⟩,⟨t90,t91⟩,_,_⟩:=cells2 w3 (.bool z) (.slice p4 (Qd.lsz Q) c4) (.bool false) (.slice p3 (Qd.lsz R) c3) 74 74;have hlow4:=Below.trans hlow3 (Below.mono hb4 (Below.size hlow3));have hs4 : ((w3.alloc (.cells #[.bool z,.slice p4 (Qd.lsz Q) c4] 74)).alloc (.cells #[.bool false,.slice p3 (Qd.lsz R) c3] 74)).heap.size = w3.heap.size + 1 + 1:=(by simp))
    | (go_at_call 150;(with_reducible refine (C4.out _ _ hlow4 (hu3.keep hb4)).mono ?_);rintro e w5 ⟨v5,rfl,hv5,hb5⟩;obtain ⟨p5,c5,rfl,_,_⟩:=hv5.parts;have x00:=cell_kept q00 hb5;have x01:=cell_kept q01 hb5;have x10:=cell_kept q10 hb5;have x11:=cell_kept q11 hb5;have x20:=cell_kept q20 hb5;have x21:=cell_kept q21 hb5;have x30:=cell_kept q30 hb5;have x31:=cell_kept q31 hb5;have y20:=frozen_kept r20 hb5 (by rw [hs4];simp;omega);have y21:=frozen_kept r21 hb5 (by rw [hs4];simp;omega);have y30:=frozen_kept r30 hb5 (by rw [hs4];simp;omega);have y31:=frozen_kept r31 hb5 (by rw [hs4];simp;omega);have x80:=cell_kept t80 hb5;have x81:=cell_kept t81 hb5;have x90:=cell_kept t90 hb5;have x91:=cell_kept t91 hb5;have y80:=frozen_kept (p:=⟨w3.heap.size,0,none⟩) (b:=false) (by go_simp) hb5 (by rw [hs4];simp;omega);have y81:=frozen_kept (p:=⟨w3.heap.size,1,none⟩) (b:=false) (by go_simp) hb5 (by rw [hs4];simp;omega);have y90:=frozen_kept (p:=⟨w3.heap.size + 1,0,none⟩) (b:=false) (by go_simp) hb5 (by rw [hs4];simp);have y91:=frozen_kept (p:=⟨w3.heap.size + 1,1,none⟩) (b:=false) (by go_simp) hb5 (by rw [hs4];simp);have hlow5:=hlow4.trans (hb5.mono hlow4.size);have hs5:=hb5.size;rw [hs4] at hs5;have hq5:=(hv3.keep hb4).keep hb5;have N1 : ¬ (w3.heap.size + 1 = w.heap.size + 1):=(by omega)))
  have d89 : w3.heap.size ≠ w3.heap.size + 1:=by omega
  have d29 : w.heap.size + 1 + 1 ≠ w3.heap.size + 1:=by omega
  have d39 : w.heap.size + 1 + 1 + 1 ≠ w3.heap.size + 1:=by omega
  have X80 : ((w5.setCell ⟨w3.heap.size + 1,0,none⟩ (.bool false)).setCell ⟨w3.heap.size + 1,1,none⟩ (.slice p5 (Qd.lsz M) c5)).cell? ⟨w3.heap.size,0,none⟩ = some (.bool z):=cell_set (cell_set x80 d89) d89
  have X81 : ((w5.setCell ⟨w3.heap.size + 1,0,none⟩ (.bool false)).setCell ⟨w3.heap.size + 1,1,none⟩ (.slice p5 (Qd.lsz M) c5)).cell? ⟨w3.heap.size,1,none⟩ = some (.slice p4 (Qd.lsz Q) c4):=cell_set (cell_set x81 d89) d89
  have X90 : ((w5.setCell ⟨w3.heap.size + 1,0,none⟩ (.bool false)).setCell ⟨w3.heap.size + 1,1,none⟩ (.slice p5 (Qd.lsz M) c5)).cell? ⟨w3.heap.size + 1,0,none⟩ = some (.bool false):=by go_simp
  have X91 : ((w5.setCell ⟨w3.heap.size + 1,0,none⟩ (.bool false)).setCell ⟨w3.heap.size + 1,1,none⟩ (.slice p5 (Qd.lsz M) c5)).cell? ⟨w3.heap.size + 1,1,none⟩ = some (.slice p5 (Qd.lsz M) c5):=by go_simp
  have X20 : ((w5.setCell ⟨w3.heap.size + 1,0,none⟩ (.bool false)).setCell ⟨w3.heap.size + 1,1,none⟩ (.slice p5 (Qd.lsz M) c5)).cell? ⟨w.heap.size + 1 + 1,0,none⟩ = some (.bool false):=cell_set (cell_set x20 d29) d29
  have X21 : ((w5.setCell ⟨w3.heap.size + 1,0,none⟩ (.bool false)).setCell ⟨w3.heap.size + 1,1,none⟩ (.slice p5 (Qd.lsz M) c5)).cell? ⟨w.heap.size + 1 + 1,1,none⟩ = some (.slice none 0 0):=cell_set (cell_set x21 d29) d29
  have X30 : ((w5.setCell ⟨w3.heap.size + 1,0,none⟩ (.bool false)).setCell ⟨w3.heap.size + 1,1,none⟩ (.slice p5 (Qd.lsz M) c5)).cell? ⟨w.heap.size + 1 + 1 + 1,0,none⟩ = some (.bool false):=cell_set (cell_set x30 d39) d39
  have X31 : ((w5.setCell ⟨w3.heap.size + 1,0,none⟩ (.bool false)).setCell ⟨w3.heap.size + 1,1,none⟩ (.slice p5 (Qd.lsz M) c5)).cell? ⟨w.heap.size + 1 + 1 + 1,1,none⟩ = some (.slice none 0 0):=cell_set (cell_set x31 d39) d39
  have Y20 : ((w5.setCell ⟨w3.heap.size + 1,0,none⟩ (.bool false)).setCell ⟨w3.heap.size + 1,1,none⟩ (.slice p5 (Qd.lsz M) c5)).frozen? ⟨w.heap.size + 1 + 1,0,none⟩ = false:=set_frozen (set_frozen y20)
  have Y21 : ((w5.setCell ⟨w3.heap.size + 1,0,none⟩ (.bool false)).setCell ⟨w3.heap.size + 1,1,none⟩ (.slice p5 (Qd.lsz M) c5)).frozen? ⟨w.heap.size + 1 + 1,1,none⟩ = false:=set_frozen (set_frozen y21)
  have Y30 : ((w5.setCell ⟨w3.heap.size + 1,0,none⟩ (.bool false)).setCell ⟨w3.heap.size + 1,1,none⟩ (.slice p5 (Qd.lsz M) c5)).frozen? ⟨w.heap.size + 1 + 1 + 1,0,none⟩ = false:=set_frozen (set_frozen y30)
  have Y31 : ((w5.setCell ⟨w3.heap.size + 1,0,none⟩ (.bool false)).setCell ⟨w3.heap.size + 1,1,none⟩ (.slice p5 (Qd.lsz M) c5)).frozen? ⟨w.heap.size + 1 + 1 + 1,1,none⟩ = false:=set_frozen (set_frozen y31)
  have Y80 : ((w5.setCell ⟨w3.heap.size + 1,0,none⟩ (.bool false)).setCell ⟨w3.heap.size + 1,1,none⟩ (.slice p5 (Qd.lsz M) c5)).frozen? ⟨w3.heap.size,0,none⟩ = false:=set_frozen (set_frozen y80)
  have Y81 : ((w5.setCell ⟨w3.heap.size + 1,0,none⟩ (.bool false)).setCell ⟨w3.heap.size + 1,1,none⟩ (.slice p5 (Qd.lsz M) c5)).frozen? ⟨w3.heap.size,1,none⟩ = false:=set_frozen (set_frozen y81)
  have hq6 : BigAt ((w5.setCell ⟨w3.heap.size + 1,0,none⟩ (.bool false)).setCell ⟨w3.heap.size + 1,1,none⟩ (.slice p5 (Qd.lsz M) c5)) (.agg #[.bool z,.slice p4 (Qd.lsz Q) c4]) ((-((Q : Nat) : Int))):=hbig.out _ _ (Mg.set2 hq5 x90 _ _)
  have hm6 : Mags ((w5.setCell ⟨w3.heap.size + 1,0,none⟩ (.bool false)).setCell ⟨w3.heap.size + 1,1,none⟩ (.slice p5 (Qd.lsz M) c5)) (.slice p5 (Qd.lsz M) c5) M:=Mg.set2 hv5 x90 _ _
  have hlow6 : Below w.heap.size w ((w5.setCell ⟨w3.heap.size + 1,0,none⟩ (.bool false)).setCell ⟨w3.heap.size + 1,1,none⟩ (.slice p5 (Qd.lsz M) c5)):=(hlow5.setCell (p:=⟨w3.heap.size + 1,0,none⟩) (by simp;omega) _).setCell (p:=⟨w3.heap.size + 1,1,none⟩) (by simp;omega) _
  have hs6 : ((w5.setCell ⟨w3.heap.size + 1,0,none⟩ (.bool false)).setCell ⟨w3.heap.size + 1,1,none⟩ (.slice p5 (Qd.lsz M) c5)).heap.size = w5.heap.size:=by simp
  generalize ((w5.setCell ⟨w3.heap.size + 1,0,none⟩ (.bool false)).setCell ⟨w3.heap.size + 1,1,none⟩ (.slice p5 (Qd.lsz M) c5)) = W6 at *
  clear x00 x01 x10 x11 x20 x21 x30 x31 x80 x81 x90 x91 y20 y21 y30 y31 y80 y81 y90 y91 o00 o01 o10 o11 o20 o21 o30 o31 q00 q01 q10 q11 q20 q21 q30 q31 m00 m01 m10 m11 m20 m21 m30 m31 k00 k01 k10 k11 k20 k21 k30 k31 f20 f21 f30 f31 g20 g21 g30 g31 e20 e21 e30 e31 r20 r21 r30 r31 t80 t81 t90 t91 hq5 hv5 hb5 hb4 hb3 hb2 hlow5 hlow4 hlow3 hlow2 hu3 hv3 hv2 hu2 N1 hbig C1 C2 C4
  go_region_with (first
    | (go_at_call 68;(with_reducible refine (C5.out _).mono ?_);rintro e w7 ⟨v7,rfl,hv7,hb7⟩;obtain ⟨b7,p7,k7,c7,rfl⟩:=hv7.shape;have hb7q:=Below.trans (a:=W6) (B:=W6.heap.size) (by repeat' first | exact Below.refl _ _ | assumption | refine Below.setCell ?_ ?_ _ | refine Below.alloc ?_ ?_ _ | refine below_drewN ?_ | refine Below.drew ?_ | (simp;done) | (simp;omega)) (Below.mono hb7 (Below.size (B:=W6.heap.size) (w:=W6) (by repeat' first | exact Below.refl _ _ | assumption | refine Below.setCell ?_ ?_ _ | refine Below.alloc ?_ ?_ _ | refine below_drewN ?_ | refine Below.drew ?_ | (simp;done) | (simp;omega))));have hq7:=hq6.keep hb7q;have z80:=cell_kept X80 hb7q;have z81:=cell_kept X81 hb7q;have zf80:=frozen_kept Y80 hb7q (by rw [hs6];simp;omega);have zf81:=frozen_kept Y81 hb7q (by rw [hs6];simp;omega);have hs7:=hb7q.size)
    | (go_at_call 82;(with_reducible refine (C6.out _ _ _ hq7 hv7).mono ?_);rintro e w8 ⟨v8,rfl,hv8,hb8⟩;obtain ⟨b8,p8,k8,c8,rfl⟩:=hv8.shape;have a80:=cell_kept z80 hb8;have a81:=cell_kept z81 hb8;have af80:=frozen_kept zf80 hb8 (by simp;omega);have af81:=frozen_kept zf81 hb8 (by simp;omega);have hb8q:=hb7q.trans (hb8.mono hb7q.size);have hs8:=hb8q.size))
  all_goals
    go_wp2_with fail
    have d98 : w3.heap.size + 1 ≠ w3.heap.size:=by omega
    have d28 : w.heap.size + 1 + 1 ≠ w3.heap.size:=by omega
    have d38 : w.heap.size + 1 + 1 + 1 ≠ w3.heap.size:=by omega
    have T80 : ((w8.setCell ⟨w3.heap.size,0,none⟩ (.bool b8)).setCell ⟨w3.heap.size,1,none⟩ (.slice p8 k8 c8)).cell? ⟨w3.heap.size,0,none⟩ = some (.bool b8):=by go_simp
    have T81 : ((w8.setCell ⟨w3.heap.size,0,none⟩ (.bool b8)).setCell ⟨w3.heap.size,1,none⟩ (.slice p8 k8 c8)).cell? ⟨w3.heap.size,1,none⟩ = some (.slice p8 k8 c8):=by go_simp
    have T90:=cell_set (a:=⟨w3.heap.size,1,none⟩) (u:=.slice p8 k8 c8) (cell_set (a:=⟨w3.heap.size,0,none⟩) (u:=.bool b8) (cell_kept X90 hb8q) d98) d98
    have T91:=cell_set (a:=⟨w3.heap.size,1,none⟩) (u:=.slice p8 k8 c8) (cell_set (a:=⟨w3.heap.size,0,none⟩) (u:=.bool b8) (cell_kept X91 hb8q) d98) d98
    have Z20:=cell_set (a:=⟨w3.heap.size,1,none⟩) (u:=.slice p8 k8 c8) (cell_set (a:=⟨w3.heap.size,0,none⟩) (u:=.bool b8) (cell_kept X20 hb8q) d28) d28
    have Z21:=cell_set (a:=⟨w3.heap.size,1,none⟩) (u:=.slice p8 k8 c8) (cell_set (a:=⟨w3.heap.size,0,none⟩) (u:=.bool b8) (cell_kept X21 hb8q) d28) d28
    have Z30:=cell_set (a:=⟨w3.heap.size,1,none⟩) (u:=.slice p8 k8 c8) (cell_set (a:=⟨w3.heap.size,0,none⟩) (u:=.bool b8) (cell_kept X30 hb8q) d38) d38
    have Z31:=cell_set (a:=⟨w3.heap.size,1,none⟩) (u:=.slice p8 k8 c8) (cell_set (a:=⟨w3.heap.size,0,none⟩) (u:=.bool b8) (cell_kept X31 hb8q) d38) d38
    have G20 : ((w8.setCell ⟨w3.heap.size,0,none⟩ (.bool b8)).setCell ⟨w3.heap.size,1,none⟩ (.slice p8 k8 c8)).frozen? ⟨w.heap.size + 1 + 1,0,none⟩ = false:=set_frozen (set_frozen (frozen_kept Y20 hb8q (by rw [hs6];simp;omega)))
    have G21 : ((w8.setCell ⟨w3.heap.size,0,none⟩ (.bool b8)).setCell ⟨w3.heap.size,1,none⟩ (.slice p8 k8 c8)).frozen? ⟨w.heap.size + 1 + 1,1,none⟩ = false:=set_frozen (set_frozen (frozen_kept Y21 hb8q (by rw [hs6];simp;omega)))
    have G30 : ((w8.setCell ⟨w3.heap.size,0,none⟩ (.bool b8)).setCell ⟨w3.heap.size,1,none⟩ (.slice p8 k8 c8)).frozen? ⟨w.heap.size + 1 + 1 + 1,0,none⟩ = false:=set_frozen (set_frozen (frozen_kept Y30 hb8q (by rw [hs6];simp;omega)))
    have G31 : ((w8.setCell ⟨w3.heap.size,0,none⟩ (.bool b8)).setCell ⟨w3.heap.size,1,none⟩ (.slice p8 k8 c8)).frozen? ⟨w.heap.size + 1 + 1 + 1,1,none⟩ = false:=set_frozen (set_frozen (frozen_kept Y31 hb8q (by rw [hs6];simp;omega)))
    have hv9 : BigAt ((w8.setCell ⟨w3.heap.size,0,none⟩ (.bool b8)).setCell ⟨w3.heap.size,1,none⟩ (.slice p8 k8 c8)) (.agg #[.bool b8,.slice p8 k8 c8]) G:=BigAt.set2 hv8 a80 _ _
    have hm9 : Mags ((w8.setCell ⟨w3.heap.size,0,none⟩ (.bool b8)).setCell ⟨w3.heap.size,1,none⟩ (.slice p8 k8 c8)) (.slice p5 (Qd.lsz M) c5) M:=Mg.set2 (hm6.keep hb8q) a80 _ _
    have hlow9 : Below w.heap.size w ((w8.setCell ⟨w3.heap.size,0,none⟩ (.bool b8)).setCell ⟨w3.heap.size,1,none⟩ (.slice p8 k8 c8)):=((hlow6.trans (hb8q.mono hlow6.size)).setCell (p:=⟨w3.heap.size,0,none⟩) (by simp;omega) _).setCell (p:=⟨w3.heap.size,1,none⟩) (by simp;omega) _
    have hs9 : ((w8.setCell ⟨w3.heap.size,0,none⟩ (.bool b8)).setCell ⟨w3.heap.size,1,none⟩ (.slice p8 k8 c8)).heap.size = w8.heap.size:=by simp
    generalize ((w8.setCell ⟨w3.heap.size,0,none⟩ (.bool b8)).setCell ⟨w3.heap.size,1,none⟩ (.slice p8 k8 c8)) = W9 at *
    clear X80 X81 X90 X91 X20 X21 X30 X31 Y20 Y21 Y30 Y31 Y80 Y81 z80 z81 zf80 zf81 a80 a81 af80 af81 hq6 hq7 hv7 hv8 hm6 hb7 hb8 hb7q hb8q C5 C6 hlow6
    have t8n : w3.heap.size ≠ w.heap.size + 1 + 1:=by omega
    have t8m : w3.heap.size ≠ w.heap.size + 1 + 1 + 1:=by omega
    have t9n : w3.heap.size + 1 ≠ w.heap.size + 1 + 1:=by omega
    have t9m : w3.heap.size + 1 ≠ w.heap.size + 1 + 1 + 1:=by omega
    have hlt9 : w3.heap.size + 1 < W9.heap.size:=by omega
    go_region_held3 (fun w'=>w'.cell? ⟨w3.heap.size,0,none⟩ = some (.bool b8)/\w'.cell? ⟨w3.heap.size,1,none⟩ = some (.slice p8 k8 c8)/\w'.cell? ⟨w3.heap.size + 1,0,none⟩ = some (.bool false)/\w'.cell? ⟨w3.heap.size + 1,1,none⟩ = some (.slice p5 (Qd.lsz M) c5)) (first | exact ⟨T80,T81,T90,T91⟩ | exact ⟨s80,s81,s90,s91⟩ | exact ⟨cell_set (cell_set s80 t8n) t8n,cell_set (cell_set s81 t8n) t8n,cell_set (cell_set s90 t9n) t9n,cell_set (cell_set s91 t9n) t9n⟩ | exact ⟨cell_set (cell_set (cell_set (cell_set s80 t8n) t8n) t8m) t8m,cell_set (cell_set (cell_set (cell_set s81 t8n) t8n) t8m) t8m,cell_set (cell_set (cell_set (cell_set s90 t9n) t9n) t9m) t9m,cell_set (cell_set (cell_set (cell_set s91 t9n) t9n) t9m) t9m⟩ | go_keep)
      (first | (go_at_call 144;(with_reducible refine (C3.out _ _ (by exact hm9.keep (by repeat' first | exact Below.refl _ _ | assumption | refine Below.setCell ?_ ?_ _ | refine Below.alloc ?_ ?_ _ | refine below_drewN ?_ | refine Below.drew ?_ | (simp;done) | (simp;omega)))).mono ?_);rintro e wa ⟨va,rfl,hva,hba⟩;obtain ⟨pa,ca,rfl,_,_⟩:=hva.parts;have hbq:=Below.trans (a:=W9) (B:=W9.heap.size) (by repeat' first | exact Below.refl _ _ | assumption | refine Below.setCell ?_ ?_ _ | refine Below.alloc ?_ ?_ _ | refine below_drewN ?_ | refine Below.drew ?_ | (simp;done) | (simp;omega)) (Below.mono hba (Below.size (B:=W9.heap.size) (w:=W9) (by repeat' first | exact Below.refl _ _ | assumption | refine Below.setCell ?_ ?_ _ | refine Below.alloc ?_ ?_ _ | refine below_drewN ?_ | refine Below.drew ?_ | (simp;done) | (simp;omega))));clear hba;have s80:=cell_kept T80 hbq;have s81:=cell_kept T81 hbq;have s90:=cell_kept T90 hbq;have s91:=cell_kept T91 hbq;have s20:=cell_kept Z20 hbq;have s21:=cell_kept Z21 hbq;have s30:=cell_kept Z30 hbq;have s31:=cell_kept Z31 hbq;have sf20:=frozen_kept G20 hbq (by simp;omega);have sf21:=frozen_kept G21 hbq (by simp;omega);have sf30:=frozen_kept G30 hbq (by simp;omega);have sf31:=frozen_kept G31 hbq (by simp;omega);have hva9:=hv9.keep hbq;have hlowa:=hlow9.trans (hbq.mono hlow9.size);have hsa:=hbq.size))
    go_wp2_with fail
    have hne23 : w.heap.size + 1 + 1 + 1 ≠ w.heap.size + 1 + 1:=by omega
    have u30:=cell_set (a:=⟨w.heap.size + 1 + 1,1,none⟩) (u:=.slice p8 k8 c8) (cell_set (a:=⟨w.heap.size + 1 + 1,0,none⟩) (u:=.bool b8) s30 hne23) hne23
    refine ret74_2 Tryz.results91 _ _ rfl rfl (.bool b8) (.slice p8 k8 c8) (.bool false) (.slice pa (Qd.lsz M) ca) (by go_simp) (by go_simp) (by go_simp) (by go_simp) rfl ?_
    exact ⟨_,_,rfl,BigAt.set2 (BigAt.set2 hva9 s20 _ _) u30 _ _,Mg.set2 (Mg.set2 hva s20 _ _) u30 _ _,(by repeat' first | exact Below.refl _ _ | assumption | refine Below.setCell ?_ ?_ _ | refine Below.alloc ?_ ?_ _ | refine below_drewN ?_ | refine Below.drew ?_ | (simp;done) | (simp;omega))⟩
end
section
open Go.RowKit
open Qd (lims)
theorem euclid_unique {a b q r : Int} (_hb : b ≠ 0) (h : a = b * q + r) (h0 : 0 <= r) (h1 : r < b.natAbs) : q = a / b/\r = a % b:=by
  by_cases hp : 0 < b
  · have:=(Int.ediv_emod_unique hp (a:=a) (r:=r) (q:=q)).2 ⟨by rw [h];omega,h0,by omega⟩
    exact ⟨this.1.symm,this.2.symm⟩
  · have:=(Int.ediv_emod_unique' (show b < 0 by omega) (a:=a) (r:=r) (q:=q)).2 ⟨by rw [h];omega,h0,by omega⟩
    exact ⟨this.1.symm,this.2.symm⟩
theorem cast_divmod (m n : Nat) : ∃ P : Int,(n : Int) * ((m / n : Nat) : Int) = P/\(m : Int) = P + ((m % n : Nat) : Int):=by
  refine ⟨_,rfl,?_⟩
  have:=Nat.div_add_mod m n
  conv=>lhs;rw [<- this]
  simp
theorem big_nat {w : World} {v : Value} {n : Nat} (h : Mags w v n) : BigAt w (.agg #[.bool false,v]) (n : Int):=⟨v,by rw [decide_eq_false (by omega)],by rw [abs_up];exact h⟩
theorem euclid_pp (m n : Nat) (hn : 0 < n) : ((m / n : Nat) : Int) = (m : Int) / (n : Int)/\((m % n : Nat) : Int) = (m : Int) % (n : Int):=by
  obtain ⟨P,h1,h2⟩:=cast_divmod m n
  have:=Nat.mod_lt m hn
  exact euclid_unique (by omega) (by rw [h1];omega) (by omega) (by omega)
theorem euclid_pn (m n : Nat) (hn : 0 < n) : -((m / n : Nat) : Int) = (m : Int) / (-(n : Int))/\((m % n : Nat) : Int) = (m : Int) % (-(n : Int)):=by
  obtain ⟨P,h1,h2⟩:=cast_divmod m n
  have:=Nat.mod_lt m hn
  exact euclid_unique (by omega) (by rw [Int.neg_mul_neg,h1];omega) (by omega) (by omega)
theorem euclid_zp (m n : Nat) (hn : 0 < n) (hr : m % n = 0) : -((m / n : Nat) : Int) = (-(m : Int)) / (n : Int)/\((m % n : Nat) : Int) = (-(m : Int)) % (n : Int):=by
  obtain ⟨P,h1,h2⟩:=cast_divmod m n
  have:=Nat.mod_lt m hn
  exact euclid_unique (by omega) (by rw [Int.mul_neg,h1];omega) (by omega) (by omega)
theorem euclid_zn (m n : Nat) (hn : 0 < n) (hr : m % n = 0) : ((m / n : Nat) : Int) = (-(m : Int)) / (-(n : Int))/\((m % n : Nat) : Int) = (-(m : Int)) % (-(n : Int)):=by
  obtain ⟨P,h1,h2⟩:=cast_divmod m n
  have:=Nat.mod_lt m hn
  exact euclid_unique (by omega) (by rw [Int.neg_mul,h1];omega) (by omega) (by omega)
theorem euclid_np (m n : Nat) (hn : 0 < n) (hr : m % n ≠ 0) : -((m / n : Nat) : Int) - 1 = (-(m : Int)) / (n : Int)/\((n - m % n : Nat) : Int) = (-(m : Int)) % (n : Int):=by
  obtain ⟨P,h1,h2⟩:=cast_divmod m n
  have:=Nat.mod_lt m hn
  exact euclid_unique (by omega) (by rw [Int.mul_sub,Int.mul_neg,h1];omega) (by omega) (by omega)
theorem euclid_nn (m n : Nat) (hn : 0 < n) (hr : m % n ≠ 0) : ((m / n : Nat) : Int) + 1 = (-(m : Int)) / (-(n : Int))/\((n - m % n : Nat) : Int) = (-(m : Int)) % (-(n : Int)):=by
  obtain ⟨P,h1,h2⟩:=cast_divmod m n
  have:=Nat.mod_lt m hn
  exact euclid_unique (by omega) (by rw [Int.mul_add,Int.neg_mul,h1];omega) (by omega) (by omega)
theorem agg_flag {b b' : Bool} {v : Value} (h : b = b') : (Value.agg #[.bool b,v]) = .agg #[.bool b',v]:=by rw [h]
theorem refOver_any (x y : Value) (z1 z2 : Int) (h0 : z2 ≠ 0) (h1 : Qd.lsz z1.natAbs <= 5000) (h2 : Qd.lsz z2.natAbs <= 5000) (w : World) (hx : BigAt w x z1) (hy : BigAt w y z2) :
    Calls Tryz.prog 91 #[x,y] w fun e w'=>∃ v u,e = .returned (.tuple #[v,u])/\BigAt w' v (z1 / z2)/\BigAt w' u (z1 % z2)/\Below w.heap.size w w':=by
  obtain ⟨s,rfl,hs⟩:=hx
  obtain ⟨t,rfl,ht⟩:=hy
  obtain ⟨m,hm⟩ : ∃ m,z1.natAbs = m:=⟨_,rfl⟩
  obtain ⟨n,hn⟩ : ∃ n,z2.natAbs = n:=⟨_,rfl⟩
  rw [hm] at hs h1
  rw [hn] at ht h2
  have hn0 : 0 < n:=by omega
  by_cases c1 : z1 < 0
  · have e1 : z1 = -(m : Int):=by omega
    by_cases hr : m % n = 0
    · rw [decide_eq_true c1]
      refine (refOver_zero _ s t m n hn0 hr h1 h2 w hs ht).mono ?_
      rintro e w' ⟨v,u,rfl,hv,hu,hb⟩
      refine ⟨_,_,rfl,?_,?_,hb⟩
      · by_cases c2 : z2 < 0
        · have e2 : z2 = -(n : Int):=by omega
          rw [e1,e2,<- (euclid_zn m n hn0 hr).1]
          refine ⟨v,agg_flag ?_,by rw [abs_up];exact hv⟩
          rw [sgn_up (m / n),decide_eq_true (show -(n : Int) < 0 by omega)];rfl
        · have e2 : z2 = (n : Int):=by omega
          rw [e1,e2,<- (euclid_zp m n hn0 hr).1]
          refine ⟨v,agg_flag ?_,by rw [abs_dn];exact hv⟩
          rw [sgn_dn (m / n),decide_eq_false (show ¬ (n : Int) < 0 by omega)];rfl
      · by_cases c2 : z2 < 0
        · have e2 : z2 = -(n : Int):=by omega
          rw [e1,e2,<- (euclid_zn m n hn0 hr).2];exact big_nat hu
        · have e2 : z2 = (n : Int):=by omega
          rw [e1,e2,<- (euclid_zp m n hn0 hr).2];exact big_nat hu
    · rw [decide_eq_true c1]
      by_cases c2 : z2 < 0
      · have e2 : z2 = -(n : Int):=by omega
        rw [decide_eq_true c2]
        refine (refOver_up s t m n hn0 hr h1 h2 w hs ht).mono ?_
        rintro e w' ⟨v,u,rfl,hv,hu,hb⟩
        refine ⟨_,_,rfl,?_,?_,hb⟩
        · rw [e1,e2,<- (euclid_nn m n hn0 hr).1];exact hv
        · rw [e1,e2,<- (euclid_nn m n hn0 hr).2];exact big_nat hu
      · have e2 : z2 = (n : Int):=by omega
        rw [decide_eq_false c2]
        refine (refOver_down s t m n hn0 hr h1 h2 w hs ht).mono ?_
        rintro e w' ⟨v,u,rfl,hv,hu,hb⟩
        refine ⟨_,_,rfl,?_,?_,hb⟩
        · rw [e1,e2,<- (euclid_np m n hn0 hr).1];exact hv
        · rw [e1,e2,<- (euclid_np m n hn0 hr).2];exact big_nat hu
  · have e1 : z1 = (m : Int):=by omega
    rw [decide_eq_false c1]
    refine (refOver_pos _ s t m n hn0 h1 h2 w hs ht).mono ?_
    rintro e w' ⟨v,u,rfl,hv,hu,hb⟩
    refine ⟨_,_,rfl,?_,?_,hb⟩
    · by_cases c2 : z2 < 0
      · have e2 : z2 = -(n : Int):=by omega
        rw [e1,e2,<- (euclid_pn m n hn0).1]
        refine ⟨v,agg_flag ?_,by rw [abs_dn];exact hv⟩
        rw [sgn_dn (m / n),decide_eq_true (show -(n : Int) < 0 by omega)];rfl
      · have e2 : z2 = (n : Int):=by omega
        rw [e1,e2,<- (euclid_pp m n hn0).1]
        refine ⟨v,agg_flag ?_,by rw [abs_up];exact hv⟩
        rw [sgn_up (m / n),decide_eq_false (show ¬ (n : Int) < 0 by omega)];rfl
    · by_cases c2 : z2 < 0
      · have e2 : z2 = -(n : Int):=by omega
        rw [e1,e2,<- (euclid_pn m n hn0).2];exact big_nat hu
      · have e2 : z2 = (n : Int):=by omega
        rw [e1,e2,<- (euclid_pp m n hn0).2];exact big_nat hu
end
section
open Go.RowKit
open Qd (lims)
structure Cmn (w : World) (B g m n : Nat) (v2 v3 : Value) (W : World) : Prop where
  a0 : W.cell? ⟨B,0,none⟩ = some (.bool false)
  a1 : W.cell? ⟨B,1,none⟩ = some v2
  b0 : W.cell? ⟨B + 1,0,none⟩ = some (.bool false)
  b1 : W.cell? ⟨B + 1,1,none⟩ = some v3
  r0 : W.cell? ⟨B + 1 + 1,0,none⟩ = some (.bool false)
  r1 : W.cell? ⟨B + 1 + 1,1,none⟩ = some (.slice none 0 0)
  f0 : W.frozen? ⟨B,0,none⟩ = false
  f1 : W.frozen? ⟨B,1,none⟩ = false
  f2 : W.frozen? ⟨B + 1,0,none⟩ = false
  f3 : W.frozen? ⟨B + 1,1,none⟩ = false
  f4 : W.frozen? ⟨B + 1 + 1,0,none⟩ = false
  f5 : W.frozen? ⟨B + 1 + 1,1,none⟩ = false
  m2 : Mags W v2 m
  m3 : Mags W v3 n
  gcd : Nat.gcd m n = g
  l2 : Qd.lsz m <= 5000
  l3 : Qd.lsz n <= 5000
  low : Below w.heap.size w W
  size : B + 1 + 1 < W.heap.size
theorem Cmn.keep {w W W' : World} {B g m n : Nat} {v2 v3 : Value} (h : Cmn w B g m n v2 v3 W) (hb : Below W.heap.size W W') : Cmn w B g m n v2 v3 W':=by
  obtain ⟨a0,a1,b0,b1,r0,r1,f0,f1,f2,f3,f4,f5,m2,m3,gcd,l2,l3,low,size⟩:=h
  exact { a0:=cell_kept a0 hb,a1:=cell_kept a1 hb,b0:=cell_kept b0 hb,b1:=cell_kept b1 hb,r0:=cell_kept r0 hb,r1:=cell_kept r1 hb,f0:=frozen_kept f0 hb (by simp;omega),f1:=frozen_kept f1 hb (by simp;omega),f2:=frozen_kept f2 hb (by simp;omega),f3:=frozen_kept f3 hb (by simp;omega),f4:=frozen_kept f4 hb (by simp;omega),f5:=frozen_kept f5 hb (by simp;omega),m2:=m2.keep hb,m3:=m3.keep hb,gcd:=gcd,l2:=l2,l3:=l3,low:=low.trans (hb.mono low.size),size:=by have:=hb.size;omega }
theorem Cmn.next {w W : World} {B g m n R : Nat} {v2 v3 u : Value} (h : Cmn w B g m n v2 v3 W) (hu : Mags W u R) (hR : R = m % n) (hB : w.heap.size <= B) : Cmn w B g n R v3 u ((((W.setCell ⟨B,0,none⟩ (.bool false)).setCell ⟨B,1,none⟩ v3).setCell ⟨B + 1,0,none⟩ (.bool false)).setCell ⟨B + 1,1,none⟩ u):=by
  obtain ⟨a0,a1,b0,b1,r0,r1,f0,f1,f2,f3,f4,f5,m2,m3,gcd,l2,l3,low,size⟩:=h
  have n1 : B ≠ B + 1:=by omega
  have n2 : B + 1 ≠ B:=by omega
  have n3 : B + 1 + 1 ≠ B:=by omega
  have n4 : B + 1 + 1 ≠ B + 1:=by omega
  have e0 : (W.setCell ⟨B,0,none⟩ (.bool false)).cell? ⟨B,0,none⟩ = some (.bool false):=World.cell?_setCell_same _ _ _ a0
  have e1 : (W.setCell ⟨B,0,none⟩ (.bool false)).cell? ⟨B,1,none⟩ = some v2:=set_cell a1 (by omega)
  have g0 : ((W.setCell ⟨B,0,none⟩ (.bool false)).setCell ⟨B,1,none⟩ v3).cell? ⟨B + 1,0,none⟩ = some (.bool false):=cell_set (cell_set b0 n2) n2
  have g1 : ((W.setCell ⟨B,0,none⟩ (.bool false)).setCell ⟨B,1,none⟩ v3).cell? ⟨B + 1,1,none⟩ = some v3:=cell_set (cell_set b1 n2) n2
  exact {
    a0:=cell_set (cell_set (set_cell e0 (by omega)) n1) n1
    a1:=cell_set (cell_set (World.cell?_setCell_same _ _ _ e1) n1) n1
    b0:=set_cell (World.cell?_setCell_same _ _ _ g0) (by omega)
    b1:=World.cell?_setCell_same _ _ _ (set_cell g1 (by omega))
    r0:=cell_set (cell_set (cell_set (cell_set r0 n3) n3) n4) n4
    r1:=cell_set (cell_set (cell_set (cell_set r1 n3) n3) n4) n4
    f0:=set_frozen (set_frozen (set_frozen (set_frozen f0)))
    f1:=set_frozen (set_frozen (set_frozen (set_frozen f1)))
    f2:=set_frozen (set_frozen (set_frozen (set_frozen f2)))
    f3:=set_frozen (set_frozen (set_frozen (set_frozen f3)))
    f4:=set_frozen (set_frozen (set_frozen (set_frozen f4)))
    f5:=set_frozen (set_frozen (set_frozen (set_frozen f5)))
    m2:=Mg.set2 (Mg.set2 m3 a0 _ _) g0 _ _
    m3:=Mg.set2 (Mg.set2 hu a0 _ _) g0 _ _
    gcd:=by rw [hR,<- gcd,Nat.gcd_comm n (m % n),<- Nat.gcd_rec,Nat.gcd_comm]
    l2:=l3
    l3:=Nat.le_trans (Qd.lsz_mono (by rw [hR];exact Nat.mod_le m n)) l2
    low:=(((low.setCell (p:=⟨B,0,none⟩) hB _).setCell (p:=⟨B,1,none⟩) hB _).setCell (p:=⟨B + 1,0,none⟩) (by simp;omega) _).setCell (p:=⟨B + 1,1,none⟩) (by simp;omega) _
    size:=by simpa using size }
theorem big_nat_inv {w : World} {u : Value} {k : Nat} (h : BigAt w u (k : Int)) : ∃ s,u = .agg #[.bool false,s]/\Mags w s k:=by
  obtain ⟨s,rfl,hs⟩:=h
  rw [abs_up] at hs
  exact ⟨s,by rw [decide_eq_false (show ¬ ((k : Int) < 0) by omega)],hs⟩
end
section
open Go.RowKit
open Qd (lims)
end
section
open Go.RowKit
open Qd (lims)
theorem three_cells (w : World) (a b c : Int) (t : TypeId) (i : Nat) (h : i < [a,b,c].length) : (w.alloc (.cells #[.int .i64 a,.int .i64 b,.int .i64 c] t)).cell? ⟨w.heap.size,i,none⟩ = some (.int .i64 [a,b,c][i]):=by
  match i,h with
  | 0,_=>simp
  | 1,_=>simp
  | 2,_=>simp
theorem zero_text {y : ByteArray} (h : Okz y) : (y.toList == [48]) = decide (vz y = 0):=by
  rw [toList_data']
  by_cases h0 : vz y = 0
  · have:=tz_vz h
    rw [h0] at this
    rw [decide_eq_true h0,<- this,tz_pos (Int.le_refl 0),show (0 : Int).natAbs = 0 from rfl,Lib.decDigits_one (by omega)]
    rfl
  · rw [decide_eq_false h0]
    rw [beq_eq_false_iff_ne]
    intro e
    exact h0 (by unfold vz intM intS;rw [e];rfl)
theorem lsz_fit {z : Int} (h : z.natAbs < 10 ^ 120) : Qd.lsz z.natAbs <= 30:=(Qd.lsz_le_iff 30 _).2 (by rw [bb_ten4];exact h)
theorem resI_fit {z : Int} (h : z.natAbs < 10 ^ 120) : resI z = .tuple #[.string (tz z),.int .i64 0]:=by
  unfold resI
  rw [if_pos h]
  rfl
end
section
open Go.RowKit
open Qd (lims)
structure Pws (w : World) (H : Nat) (P X : Int) (b7 : Bool) (s7 : Value) (b8 : Bool) (s8 : Value) (W : World) : Prop where
  c0 : W.cell? ⟨H,0,none⟩ = some (.bool b7)
  c1 : W.cell? ⟨H,1,none⟩ = some s7
  d0 : W.cell? ⟨H + 1,0,none⟩ = some (.bool b8)
  d1 : W.cell? ⟨H + 1,1,none⟩ = some s8
  f0 : W.frozen? ⟨H,0,none⟩ = false
  f1 : W.frozen? ⟨H,1,none⟩ = false
  g7 : BigAt W (.agg #[.bool b7,s7]) P
  g8 : BigAt W (.agg #[.bool b8,s8]) X
  low : Below w.heap.size w W
  above : w.heap.size <= H
  size : H + 1 < W.heap.size
theorem Pws.keep {w W W' : World} {H : Nat} {P X : Int} {b7 b8 : Bool} {s7 s8 : Value} (h : Pws w H P X b7 s7 b8 s8 W) (hb : Below W.heap.size W W') : Pws w H P X b7 s7 b8 s8 W':=by
  obtain ⟨c0,c1,d0,d1,f0,f1,g7,g8,low,above,size⟩:=h
  exact { c0:=cell_kept c0 hb,c1:=cell_kept c1 hb,d0:=cell_kept d0 hb,d1:=cell_kept d1 hb,f0:=frozen_kept f0 hb (by simp;omega),f1:=frozen_kept f1 hb (by simp;omega),g7:=g7.keep hb,g8:=g8.keep hb,low:=low.trans (hb.mono low.size),above:=above,size:=by have:=hb.size;omega }
theorem Pws.next {w W : World} {H : Nat} {P Q X : Int} {b7 b8 b9 : Bool} {s7 s8 s9 : Value} (h : Pws w H P X b7 s7 b8 s8 W) (hq : BigAt W (.agg #[.bool b9,s9]) Q) : Pws w H Q X b9 s9 b8 s8 ((W.setCell ⟨H,0,none⟩ (.bool b9)).setCell ⟨H,1,none⟩ s9):=by
  obtain ⟨c0,c1,d0,d1,f0,f1,g7,g8,low,above,size⟩:=h
  have n1 : H + 1 ≠ H:=by omega
  exact {
    c0:=set_cell (World.cell?_setCell_same _ _ _ c0) (by omega)
    c1:=World.cell?_setCell_same _ _ _ (set_cell c1 (by omega))
    d0:=cell_set (cell_set d0 n1) n1
    d1:=cell_set (cell_set d1 n1) n1
    f0:=set_frozen (set_frozen f0)
    f1:=set_frozen (set_frozen f1)
    g7:=hq.set2 c0 _ _
    g8:=g8.set2 c0 _ _
    low:=(low.setCell (p:=⟨H,0,none⟩) above _).setCell (p:=⟨H,1,none⟩) above _
    above:=above
    size:=by simpa using size }
end
section
open Go.RowKit
open Qd (lims)
end
end Go.Proofs.YtpbegoflpfdajaaGreatDoor
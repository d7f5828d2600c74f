/- WHAT IS PROVED: contracts of functions of the numbers package and laws for them, used by the last text of this claim. CONDITIONS: stated at each theorem. -/
import Derived.Deep.RegionWith
import Derived.Test.YtpbegoflpfdajaaGreatDoorN42
namespace Go.Proofs.YtpbegoflpfdajaaGreatDoor
section
open Go.RowKit
open Qd (lims)
theorem cells4 (w : World) (x0 x1 y0 y1 z0 z1 u0 u1 : Value) (t : TypeId) : ((((((w.alloc (.cells #[x0,x1] t)).alloc (.cells #[y0,y1] t)).alloc (.cells #[z0,z1] t)).alloc (.cells #[u0,u1] t)).cell? ⟨w.heap.size,0,none⟩ = some x0/\((((w.alloc (.cells #[x0,x1] t)).alloc (.cells #[y0,y1] t)).alloc (.cells #[z0,z1] t)).alloc (.cells #[u0,u1] t)).cell? ⟨w.heap.size,1,none⟩ = some x1)/\(((((w.alloc (.cells #[x0,x1] t)).alloc (.cells #[y0,y1] t)).alloc (.cells #[z0,z1] t)).alloc (.cells #[u0,u1] t)).cell? ⟨w.heap.size + 1,0,none⟩ = some y0/\((((w.alloc (.cells #[x0,x1] t)).alloc (.cells #[y0,y1] t)).alloc (.cells #[z0,z1] t)).alloc (.cells #[u0,u1] t)).cell? ⟨w.heap.size + 1,1,none⟩ = some y1))/\((((((w.alloc (.cells #[x0,x1] t)).alloc (.cells #[y0,y1] t)).alloc (.cells #[z0,z1] t)).alloc (.cells #[u0,u1] t)).cell? ⟨w.heap.size + 1 + 1,0,none⟩ = some z0/\((((w.alloc (.cells #[x0,x1] t)).alloc (.cells #[y0,y1] t)).alloc (.cells #[z0,z1] t)).alloc (.cells #[u0,u1] t)).cell? ⟨w.heap.size + 1 + 1,1,none⟩ = some z1)/\(((((w.alloc (.cells #[x0,x1] t)).alloc (.cells #[y0,y1] t)).alloc (.cells #[z0,z1] t)).alloc (.cells #[u0,u1] t)).cell? ⟨w.heap.size + 1 + 1 + 1,0,none⟩ = some u0/\((((w.alloc (.cells #[x0,x1] t)).alloc (.cells #[y0,y1] t)).alloc (.cells #[z0,z1] t)).alloc (.cells #[u0,u1] t)).cell? ⟨w.heap.size + 1 + 1 + 1,1,none⟩ = some u1))/\((((((w.alloc (.cells #[x0,x1] t)).alloc (.cells #[y0,y1] t)).alloc (.cells #[z0,z1] t)).alloc (.cells #[u0,u1] t)).frozen? ⟨w.heap.size + 1 + 1,0,none⟩ = false/\((((w.alloc (.cells #[x0,x1] t)).alloc (.cells #[y0,y1] t)).alloc (.cells #[z0,z1] t)).alloc (.cells #[u0,u1] t)).frozen? ⟨w.heap.size + 1 + 1,1,none⟩ = false)/\(((((w.alloc (.cells #[x0,x1] t)).alloc (.cells #[y0,y1] t)).alloc (.cells #[z0,z1] t)).alloc (.cells #[u0,u1] t)).frozen? ⟨w.heap.size + 1 + 1 + 1,0,none⟩ = false/\((((w.alloc (.cells #[x0,x1] t)).alloc (.cells #[y0,y1] t)).alloc (.cells #[z0,z1] t)).alloc (.cells #[u0,u1] t)).frozen? ⟨w.heap.size + 1 + 1 + 1,1,none⟩ = false))/\((((w.alloc (.cells #[x0,x1] t)).alloc (.cells #[y0,y1] t)).alloc (.cells #[z0,z1] t)).alloc (.cells #[u0,u1] t)).heap.size = w.heap.size + 1 + 1 + 1 + 1:=by
  refine ⟨⟨⟨?_,?_⟩,⟨?_,?_⟩⟩,⟨⟨?_,?_⟩,⟨?_,?_⟩⟩,⟨⟨?_,?_⟩,⟨?_,?_⟩⟩,?_⟩ <;> go_simp
theorem ret74_2 {fn : Func} {R : Ending->World->Prop} {a : Act} {w : World} {t1 t2 : Nat} (hres : fn.results = #[.cell t1 74,.cell t2 74]) (b1 b2 : Nat) (ht1 : a.tmps.getD t1 undef = .pointer (some ⟨b1,0,none⟩)) (ht2 : a.tmps.getD t2 undef = .pointer (some ⟨b2,0,none⟩)) (x1 y1 x2 y2 : Value)
    (h1 : w.cell? ⟨b1,0,none⟩ = some x1) (h2 : w.cell? ⟨b1,1,none⟩ = some y1) (h3 : w.cell? ⟨b2,0,none⟩ = some x2) (h4 : w.cell? ⟨b2,1,none⟩ = some y2) (hdf : a.defers = []) (hR : R (.returned (.tuple #[.agg #[x1,y1],.agg #[x2,y2]])) w) : bodyPost Tryz.prog fn R .ret a w:=by
  refine bodyPost_ret (v:=.tuple #[.agg #[x1,y1],.agg #[x2,y2]]) ?_ hdf hR
  have r1:=run_loadVar_mid w b1 0 74 [x1,y1] _ (range_two h1 h2) Tryz.underlying74 rfl i74
  have r2:=run_loadVar_mid w b2 0 74 [x2,y2] _ (range_two h3 h4) Tryz.underlying74 rfl i74
  have h5 : ∀ tmps : Array Value,tmps.getD t1 undef = .pointer (some ⟨b1,0,none⟩)->tmps.getD t2 undef = .pointer (some ⟨b2,0,none⟩)->(results fn tmps).run Tryz.prog w = .ok (.tuple #[.agg #[x1,y1],.agg #[x2,y2]]) w:=by
    intro tmps ht1 ht2
    have ht1' : tmps[t1]?.getD undef = .pointer (some ⟨b1,0,none⟩):=by simpa using ht1
    have ht2' : tmps[t2]?.getD undef = .pointer (some ⟨b2,0,none⟩):=by simpa using ht2
    unfold results
    rw [hres]
    simp [asAddr,ht1',ht2',r1,r2]
  exact h5 _ ht1 ht2
theorem abs_up (D : Nat) : ((D : Nat) : Int).natAbs = D:=by omega
theorem abs_dn (D : Nat) : (-((D : Nat) : Int)).natAbs = D:=by omega
theorem sgn_up (D : Nat) : decide (((D : Nat) : Int) < 0) = (false && !decide (D = 0)):=(dec_of (by simp)).symm
theorem sgn_dn (D : Nat) : decide (-((D : Nat) : Int) < 0) = (true && !decide (D = 0)):=(dec_of (by simp;omega)).symm
end
section
open Go.RowKit
open Qd (lims)
set_option maxHeartbeats 4000000 in
set_option maxRecDepth 100000 in
theorem refOver_pos (b : Bool) (s t : Value) (m n : Nat) (hn : 0 < n) (h1 : Qd.lsz m <= 5000) (h2 : Qd.lsz n <= 5000) (w : World) (hs : Mags w s m) (ht : Mags w t n) :
    Calls Tryz.prog 91 #[.agg #[.bool false,s],.agg #[.bool b,t]] w fun e w'=>∃ v u,e = .returned (.tuple #[.agg #[.bool ((false != b) && !decide (m / n = 0)),v],.agg #[.bool false,u]])/\Mags w' v (m / n)/\Mags w' u (m % n)/\Below w.heap.size w w':=by
  have C1:=Lib.hid (fun W (hb : Below w.heap.size w W)=>refOverM_any s t m n hn h1 h2 W (hs.keep hb) (ht.keep hb))
  have hl1 : Qd.lsz (m / n) <= 5000:=Nat.le_trans (Qd.lsz_mono (Nat.div_le_self m n)) h1
  have hl2 : Qd.lsz (m % n) <= 5000:=Nat.le_trans (Qd.lsz_mono (Nat.mod_le m n)) h1
  have C2:=Lib.hid (fun W v (hm : Mags W v (m / n))=>refTrim_any b v (m / n) _ (by omega) (Qd.lsz_lt _) W hm)
  have C3:=Lib.hid (fun W v (hm : Mags W v (m % n))=>refTrim_any false v (m % n) _ (by omega) (Qd.lsz_lt _) W hm)
  obtain ⟨p,c1,rfl,_,_⟩:=hs.parts
  obtain ⟨q,d1,rfl,_,_⟩:=ht.parts
  obtain ⟨a1,ha1⟩ : ∃ a,Qd.lsz m = a:=⟨_,rfl⟩
  obtain ⟨a2,ha2⟩ : ∃ a,Qd.lsz n = a:=⟨_,rfl⟩
  rw [ha1,ha2] at C1 ⊢
  obtain ⟨z,hz⟩ : ∃ z,((false != b) && !decide (m / n = 0)) = z:=⟨_,rfl⟩
  have hz2 : (b && !decide (m / n = 0)) = z:=by rw [<- hz];cases b <;> rfl
  rw [hz2] at C2
  rw [hz]
  obtain ⟨Q,hQ⟩ : ∃ Q,m / n = Q:=⟨_,rfl⟩
  obtain ⟨R,hR⟩ : ∃ R,m % n = R:=⟨_,rfl⟩
  rw [hQ,hR] at C1
  rw [hQ] at C2 hl1 ⊢
  rw [hR] at C3 hl2 ⊢
  skip
  clear hs ht h1 h2 ha1 ha2 hz hz2 hQ hR hn
  obtain ⟨⟨⟨k00,k01⟩,⟨k10,k11⟩⟩,⟨⟨k20,k21⟩,⟨k30,k31⟩⟩,⟨⟨f20,f21⟩,⟨f30,f31⟩⟩,ksz⟩:=cells4 w (.bool false) (.slice p a1 c1) (.bool b) (.slice q a2 d1) (.bool false) (.slice none 0 0) (.bool false) (.slice none 0 0) 74
  go_enter Tryz.func91,Tryz.ntmps91
  go_wp2_with (first
    | (go_at_call 158;(with_reducible refine (C1.out _ (by repeat' first | exact Below.refl _ _ | assumption | refine Below.setCell ?_ ?_ _ | refine Below.alloc ?_ ?_ _ | refine below_drewN ?_ | refine Below.drew ?_ | (simp;done) | (simp;omega))).mono ?_);rintro e w2 ⟨v2,u2,rfl,hv2,hu2,hb2⟩;obtain ⟨p2,c2,rfl,_,_⟩:=hv2.parts;obtain ⟨p3,c3,rfl,_,_⟩:=hu2.parts;have m00:=cell_kept k00 hb2;have m01:=cell_kept k01 hb2;have m10:=cell_kept k10 hb2;have m11:=cell_kept k11 hb2;have m20:=cell_kept k20 hb2;have m21:=cell_kept k21 hb2;have m30:=cell_kept k30 hb2;have m31:=cell_kept k31 hb2;have g20:=frozen_kept f20 hb2 (by rw [ksz];simp;try omega);have g21:=frozen_kept f21 hb2 (by rw [ksz];simp;try omega);have g30:=frozen_kept f30 hb2 (by rw [ksz];simp;try omega);have g31:=frozen_kept f31 hb2 (by rw [ksz];simp;try omega);have hs2:=hb2.size;rw [ksz] at hs2;have hlow2:=Below.trans (a:=w) (B:=w.heap.size) (by repeat' first | exact Below.refl _ _ | assumption | refine Below.setCell ?_ ?_ _ | refine Below.alloc ?_ ?_ _ | refine below_drewN ?_ | refine Below.drew ?_ | (simp;done) | (simp;omega)) (Below.mono hb2 (Below.size (B:=w.heap.size) (w:=w) (by repeat' first | exact Below.refl _ _ | assumption | refine Below.setCell ?_ ?_ _ | refine Below.alloc ?_ ?_ _ | refine below_drewN ?_ | refine Below.drew ?_ | (simp;done) | (simp;omega)))))
    | (go_at_call 144;(with_reducible refine (C2.out _ _ hv2).mono ?_);rintro e w3 ⟨v3,rfl,hv3,hb3⟩;obtain ⟨p4,c4,rfl,_,_⟩:=hv3.parts;have o00:=cell_kept m00 hb3;have o01:=cell_kept m01 hb3;have o10:=cell_kept m10 hb3;have o11:=cell_kept m11 hb3;have o20:=cell_kept m20 hb3;have o21:=cell_kept m21 hb3;have o30:=cell_kept m30 hb3;have o31:=cell_kept m31 hb3;have e20:=frozen_kept g20 hb3 (by simp;omega);have e21:=frozen_kept g21 hb3 (by simp;omega);have e30:=frozen_kept g30 hb3 (by simp;omega);have e31:=frozen_kept g31 hb3 (by simp;omega);have hs3:=hb3.size;have hu3:=hu2.keep hb3;have hlow3:=Below.trans hlow2 (Below.mono hb3 (Below.size hlow2));have hb4 : Below w3.heap.size w3 ((w3.alloc (.cells #[.bool z,.slice p4 (Qd.lsz Q) c4] 74)).alloc (.cells #[.bool false,.slice p3 (Qd.lsz R) c3] 74)):=(by repeat' first | exact Below.refl _ _ | assumption | refine Below.setCell ?_ ?_ _ | refine Below.alloc ?_ ?_ _ | refine below_drewN ?_ | refine Below.drew ?_ | (simp;done) | (simp;omega));have q00:=cell_kept o00 hb4;have q01:=cell_kept o01 hb4;have q10:=cell_kept o10 hb4;have q11:=cell_kept o11 hb4;have q20:=cell_kept o20 hb4;have q21:=cell_kept o21 hb4;have q30:=cell_kept o30 hb4;have q31:=cell_kept o31 hb4;have r20:=frozen_kept e20 hb4 (by simp;omega);have r21:=frozen_kept e21 hb4 (by simp;omega);have r30:=frozen_kept e30 hb4 (by simp;omega);have r31:=frozen_kept e31 hb4 (by simp;omega);obtain ⟨⟨t80,t81⟩,⟨t90,t91⟩,_,_⟩:=cells2 w3 (.bool z) (.slice p4 (Qd.lsz Q) c4) (.bool false) (.slice p3 (Qd.lsz R) c3) 74 74;have hlow4:=Below.trans hlow3 (Below.mono hb4 (Below.size hlow3));have hs4 : ((w3.alloc (.cells #[.bool z,.slice p4 (Qd.lsz Q) c4] 74)).alloc (.cells #[.bool false,.slice p3 (Qd.lsz R) c3] 74)).heap.size = w3.heap.size + 1 + 1:=(by simp)))
  have hu4:=hu3.keep hb4
  have t8n : w3.heap.size ≠ w.heap.size + 1 + 1:=by omega
  have t8m : w3.heap.size ≠ w.heap.size + 1 + 1 + 1:=by omega
  have t9n : w3.heap.size + 1 ≠ w.heap.size + 1 + 1:=by omega
  have t9m : w3.heap.size + 1 ≠ w.heap.size + 1 + 1 + 1:=by omega
  go_region_held3 (fun w'=>w'.cell? ⟨w3.heap.size,0,none⟩ = some (.bool z)/\w'.cell? ⟨w3.heap.size,1,none⟩ = some (.slice p4 (Qd.lsz Q) c4)/\w'.cell? ⟨w3.heap.size + 1,0,none⟩ = some (.bool false)/\w'.cell? ⟨w3.heap.size + 1,1,none⟩ = some (.slice p3 (Qd.lsz R) c3)) (first | exact ⟨t80,t81,t90,t91⟩ | exact ⟨s80,s81,s90,s91⟩ | exact ⟨cell_set (cell_set s80 t8n) t8n,cell_set (cell_set s81 t8n) t8n,cell_set (cell_set s90 t9n) t9n,cell_set (cell_set s91 t9n) t9n⟩ | exact ⟨cell_set (cell_set (cell_set (cell_set s80 t8n) t8n) t8m) t8m,cell_set (cell_set (cell_set (cell_set s81 t8n) t8n) t8m) t8m,cell_set (cell_set (cell_set (cell_set s90 t9n) t9n) t9m) t9m,cell_set (cell_set (cell_set (cell_set s91 t9n) t9n) t9m) t9m⟩ | go_keep)
    (first | (go_at_call 144;(with_reducible refine (C3.out _ _ (by exact hu3.keep (by repeat' first | exact Below.refl _ _ | assumption | refine Below.setCell ?_ ?_ _ | refine Below.alloc ?_ ?_ _ | refine below_drewN ?_ | refine Below.drew ?_ | (simp;done) | (simp;omega)))).mono ?_);rintro e w5 ⟨v5,rfl,hv5,hb5⟩;obtain ⟨p5,c5,rfl,_,_⟩:=hv5.parts;have s80:=cell_kept (p:=⟨w3.heap.size,0,none⟩) (v:=.bool z) (by exact t80) hb5;have s81:=cell_kept (p:=⟨w3.heap.size,1,none⟩) (v:=.slice p4 (Qd.lsz Q) c4) (by exact t81) hb5;have s90:=cell_kept (p:=⟨w3.heap.size + 1,0,none⟩) (v:=.bool false) (by exact t90) hb5;have s91:=cell_kept (p:=⟨w3.heap.size + 1,1,none⟩) (v:=.slice p3 (Qd.lsz R) c3) (by exact t91) hb5;have s20:=cell_kept (p:=⟨w.heap.size + 1 + 1,0,none⟩) (v:=.bool false) (by exact q20) hb5;have s21:=cell_kept (p:=⟨w.heap.size + 1 + 1,1,none⟩) (v:=.slice none 0 0) (by exact q21) hb5;have s30:=cell_kept (p:=⟨w.heap.size + 1 + 1 + 1,0,none⟩) (v:=.bool false) (by exact q30) hb5;have s31:=cell_kept (p:=⟨w.heap.size + 1 + 1 + 1,1,none⟩) (v:=.slice none 0 0) (by exact q31) hb5;have sf20:=frozen_kept (p:=⟨w.heap.size + 1 + 1,0,none⟩) (b:=false) (by exact r20) hb5 (by have:=hs4;simp at this ⊢;omega);have sf21:=frozen_kept (p:=⟨w.heap.size + 1 + 1,1,none⟩) (b:=false) (by exact r21) hb5 (by have:=hs4;simp at this ⊢;omega);have sf30:=frozen_kept (p:=⟨w.heap.size + 1 + 1 + 1,0,none⟩) (b:=false) (by exact r30) hb5 (by have:=hs4;simp at this ⊢;omega);have sf31:=frozen_kept (p:=⟨w.heap.size + 1 + 1 + 1,1,none⟩) (b:=false) (by exact r31) hb5 (by have:=hs4;simp at this ⊢;omega);have hv4:=hv3.keep hb4;have hb5' : Below w3.heap.size w3 w5:=Below.trans (B:=w3.heap.size) (by repeat' first | exact Below.refl _ _ | assumption | refine Below.setCell ?_ ?_ _ | refine Below.alloc ?_ ?_ _ | refine below_drewN ?_ | refine Below.drew ?_ | (simp;done) | (simp;omega)) (Below.mono hb5 (Below.size (B:=w3.heap.size) (w:=w3) (by repeat' first | exact Below.refl _ _ | assumption | refine Below.setCell ?_ ?_ _ | refine Below.alloc ?_ ?_ _ | refine below_drewN ?_ | refine Below.drew ?_ | (simp;done) | (simp;omega))));have hv5q:=hv3.keep hb5';have hlow5:=hlow3.trans (hb5'.mono hlow3.size);have hs5:=hb5'.size))
  go_wp2_with fail
  have hne23 : w.heap.size + 1 + 1 + 1 ≠ w.heap.size + 1 + 1:=by omega
  have u30:=cell_set (a:=⟨w.heap.size + 1 + 1,1,none⟩) (u:=.slice p4 (Qd.lsz Q) c4) (cell_set (a:=⟨w.heap.size + 1 + 1,0,none⟩) (u:=.bool z) s30 hne23) hne23
  refine ret74_2 Tryz.results91 _ _ rfl rfl (.bool z) (.slice p4 (Qd.lsz Q) c4) (.bool false) (.slice p5 (Qd.lsz R) c5) (by go_simp) (by go_simp) (by go_simp) (by go_simp) rfl ?_
  exact ⟨_,_,rfl,Mg.set2 (Mg.set2 hv5q s20 _ _) u30 _ _,Mg.set2 (Mg.set2 hv5 s20 _ _) u30 _ _,(by repeat' first | exact Below.refl _ _ | assumption | refine Below.setCell ?_ ?_ _ | refine Below.alloc ?_ ?_ _ | refine below_drewN ?_ | refine Below.drew ?_ | (simp;done) | (simp;omega))⟩
end
section
open Go.RowKit
open Qd (lims)
set_option maxHeartbeats 4000000 in
set_option maxRecDepth 100000 in
theorem refOver_zero (b : Bool) (s t : Value) (m n : Nat) (hn : 0 < n) (hr : m % n = 0) (h1 : Qd.lsz m <= 5000) (h2 : Qd.lsz n <= 5000) (w : World) (hs : Mags w s m) (ht : Mags w t n) :
    Calls Tryz.prog 91 #[.agg #[.bool true,s],.agg #[.bool b,t]] w fun e w'=>∃ v u,e = .returned (.tuple #[.agg #[.bool ((true != b) && !decide (m / n = 0)),v],.agg #[.bool false,u]])/\Mags w' v (m / n)/\Mags w' u (m % n)/\Below w.heap.size w w':=by
  have C1:=Lib.hid (fun W (hb : Below w.heap.size w W)=>refOverM_any s t m n hn h1 h2 W (hs.keep hb) (ht.keep hb))
  have hl1 : Qd.lsz (m / n) <= 5000:=Nat.le_trans (Qd.lsz_mono (Nat.div_le_self m n)) h1
  have hl2 : Qd.lsz (m % n) <= 5000:=Nat.le_trans (Qd.lsz_mono (Nat.mod_le m n)) h1
  have C2:=Lib.hid (fun W v (hm : Mags W v (m / n))=>refTrim_any (!b) v (m / n) _ (by omega) (Qd.lsz_lt _) W hm)
  have C3:=Lib.hid (fun W v (hm : Mags W v (m % n))=>refTrim_any false v (m % n) _ (by omega) (Qd.lsz_lt _) W hm)
  obtain ⟨p,c1,rfl,_,_⟩:=hs.parts
  obtain ⟨q,d1,rfl,_,_⟩:=ht.parts
  obtain ⟨a1,ha1⟩ : ∃ a,Qd.lsz m = a:=⟨_,rfl⟩
  obtain ⟨a2,ha2⟩ : ∃ a,Qd.lsz n = a:=⟨_,rfl⟩
  rw [ha1,ha2] at C1 ⊢
  obtain ⟨z,hz⟩ : ∃ z,((true != b) && !decide (m / n = 0)) = z:=⟨_,rfl⟩
  have hz2 : ((!b) && !decide (m / n = 0)) = z:=by rw [<- hz];cases b <;> rfl
  rw [hz2] at C2
  rw [hz]
  obtain ⟨Q,hQ⟩ : ∃ Q,m / n = Q:=⟨_,rfl⟩
  obtain ⟨R,hR⟩ : ∃ R,m % n = R:=⟨_,rfl⟩
  rw [hQ,hR] at C1
  rw [hQ] at C2 hl1 ⊢
  rw [hR] at C3 hl2 ⊢
  rw [hR] at hr
  have dR : decide ((0 : Int) < ((Qd.lsz R : Nat) : Int)) = false:=by rw [hr,Qd.lsz_zero];rfl
  have dR2 : decide (0 < Qd.lsz R) = false:=by rw [hr,Qd.lsz_zero];rfl
  clear hr
  clear hs ht h1 h2 ha1 ha2 hz hz2 hQ hR hn
  obtain ⟨⟨⟨k00,k01⟩,⟨k10,k11⟩⟩,⟨⟨k20,k21⟩,⟨k30,k31⟩⟩,⟨⟨f20,f21⟩,⟨f30,f31⟩⟩,ksz⟩:=cells4 w (.bool true) (.slice p a1 c1) (.bool b) (.slice q a2 d1) (.bool false) (.slice none 0 0) (.bool false) (.slice none 0 0) 74
  go_enter Tryz.func91,Tryz.ntmps91
  go_wp2_with (first
    | (go_at_call 158;(with_reducible refine (C1.out _ (by repeat' first | exact Below.refl _ _ | assumption | refine Below.setCell ?_ ?_ _ | refine Below.alloc ?_ ?_ _ | refine below_drewN ?_ | refine Below.drew ?_ | (simp;done) | (simp;omega))).mono ?_);rintro e w2 ⟨v2,u2,rfl,hv2,hu2,hb2⟩;obtain ⟨p2,c2,rfl,_,_⟩:=hv2.parts;obtain ⟨p3,c3,rfl,_,_⟩:=hu2.parts;have m00:=cell_kept k00 hb2;have m01:=cell_kept k01 hb2;have m10:=cell_kept k10 hb2;have m11:=cell_kept k11 hb2;have m20:=cell_kept k20 hb2;have m21:=cell_kept k21 hb2;have m30:=cell_kept k30 hb2;have m31:=cell_kept k31 hb2;have g20:=frozen_kept f20 hb2 (by rw [ksz];simp;try omega);have g21:=frozen_kept f21 hb2 (by rw [ksz];simp;try omega);have g30:=frozen_kept f30 hb2 (by rw [ksz];simp;try omega);have g31:=frozen_kept f31 hb2 (by rw [ksz];simp;try omega);have hs2:=hb2.size;rw [ksz] at hs2;have hlow2:=Below.trans (a:=w) (B:=w.heap.size) (by repeat' first | exact Below.refl _ _ | assumption | refine Below.setCell ?_ ?_ _ | refine Below.alloc ?_ ?_ _ | refine below_drewN ?_ | refine Below.drew ?_ | (simp;done) | (simp;omega)) (Below.mono hb2 (Below.size (B:=w.heap.size) (w:=w) (by repeat' first | exact Below.refl _ _ | assumption | refine Below.setCell ?_ ?_ _ | refine Below.alloc ?_ ?_ _ | refine below_drewN ?_ | refine Below.drew ?_ | (simp;done) | (simp;omega)))))
    | (go_at_call 144;(with_reducible refine (C2.out _ _ hv2).mono ?_);rintro e w3 ⟨v3,rfl,hv3,hb3⟩;obtain ⟨p4,c4,rfl,_,_⟩:=hv3.parts;have o00:=cell_kept m00 hb3;have o01:=cell_kept m01 hb3;have o10:=cell_kept m10 hb3;have o11:=cell_kept m11 hb3;have o20:=cell_kept m20 hb3;have o21:=cell_kept m21 hb3;have o30:=cell_kept m30 hb3;have o31:=cell_kept m31 hb3;have e20:=frozen_kept g20 hb3 (by simp;omega);have e21:=frozen_kept g21 hb3 (by simp;omega);have e30:=frozen_kept g30 hb3 (by simp;omega);have e31:=frozen_kept g31 hb3 (by simp;omega);have hs3:=hb3.size;have hu3:=hu2.keep hb3;have hlow3:=Below.trans hlow2 (Below.mono hb3 (Below.size hlow2));have hb4 : Below w3.heap.size w3 ((w3.alloc (.cells #[.bool z,.slice p4 (Qd.lsz Q) c4] 74)).alloc (.cells #[.bool false,.slice p3 (Qd.lsz R) c3] 74)):=(by repeat' first | exact Below.refl _ _ | assumption | refine Below.setCell ?_ ?_ _ | refine Below.alloc ?_ ?_ _ | refine below_drewN ?_ | refine Below.drew ?_ | (simp;done) | (simp;omega));have q00:=cell_kept o00 hb4;have q01:=cell_kept o01 hb4;have q10:=cell_kept o10 hb4;have q11:=cell_kept o11 hb4;have q20:=cell_kept o20 hb4;have q21:=cell_kept o21 hb4;have q30:=cell_kept o30 hb4;have q31:=cell_kept o31 hb4;have r20:=frozen_kept e20 hb4 (by simp;omega);have r21:=frozen_kept e21 hb4 (by simp;omega);have r30:=frozen_kept e30 hb4 (by simp;omega);have r31:=frozen_kept e31 hb4 (by simp;omega);obtain ⟨⟨t80,t81⟩,⟨t90,t91⟩,_,_⟩:=cells2 w3 (.bool z) (.slice p4 (Qd.lsz Q) c4) (.bool false) (.slice p3 (Qd.lsz R) c3) 74 74;have hlow4:=Below.trans hlow3 (Below.mono hb4 (Below.size hlow3));have hs4 : ((w3.alloc (.cells #[.bool z,.slice p4 (Qd.lsz Q) c4] 74)).alloc (.cells #[.bool false,.slice p3 (Qd.lsz R) c3] 74)).heap.size = w3.heap.size + 1 + 1:=(by simp)))
  have hu4:=hu3.keep hb4
  have t8n : w3.heap.size ≠ w.heap.size + 1 + 1:=by omega
  have t8m : w3.heap.size ≠ w.heap.size + 1 + 1 + 1:=by omega
  have t9n : w3.heap.size + 1 ≠ w.heap.size + 1 + 1:=by omega
  have t9m : w3.heap.size + 1 ≠ w.heap.size + 1 + 1 + 1:=by omega
  go_region_held3 (fun w'=>w'.cell? ⟨w3.heap.size,0,none⟩ = some (.bool z)/\w'.cell? ⟨w3.heap.size,1,none⟩ = some (.slice p4 (Qd.lsz Q) c4)/\w'.cell? ⟨w3.heap.size + 1,0,none⟩ = some (.bool false)/\w'.cell? ⟨w3.heap.size + 1,1,none⟩ = some (.slice p3 (Qd.lsz R) c3)) (first | exact ⟨t80,t81,t90,t91⟩ | exact ⟨s80,s81,s90,s91⟩ | exact ⟨cell_set (cell_set s80 t8n) t8n,cell_set (cell_set s81 t8n) t8n,cell_set (cell_set s90 t9n) t9n,cell_set (cell_set s91 t9n) t9n⟩ | exact ⟨cell_set (cell_set (cell_set (cell_set s80 t8n) t8n) t8m) t8m,cell_set (cell_set (cell_set (cell_set s81 t8n) t8n) t8m) t8m,cell_set (cell_set (cell_set (cell_set s90 t9n) t9n) t9m) t9m,cell_set (cell_set (cell_set (cell_set s91 t9n) t9n) t9m) t9m⟩ | go_keep)
    (first | (go_at_call 144;(with_reducible refine (C3.out _ _ (by exact hu3.keep (by repeat' first | exact Below.refl _ _ | assumption | refine Below.setCell ?_ ?_ _ | refine Below.alloc ?_ ?_ _ | refine below_drewN ?_ | refine Below.drew ?_ | (simp;done) | (simp;omega)))).mono ?_);rintro e w5 ⟨v5,rfl,hv5,hb5⟩;obtain ⟨p5,c5,rfl,_,_⟩:=hv5.parts;have s80:=cell_kept (p:=⟨w3.heap.size,0,none⟩) (v:=.bool z) (by exact t80) hb5;have s81:=cell_kept (p:=⟨w3.heap.size,1,none⟩) (v:=.slice p4 (Qd.lsz Q) c4) (by exact t81) hb5;have s90:=cell_kept (p:=⟨w3.heap.size + 1,0,none⟩) (v:=.bool false) (by exact t90) hb5;have s91:=cell_kept (p:=⟨w3.heap.size + 1,1,none⟩) (v:=.slice p3 (Qd.lsz R) c3) (by exact t91) hb5;have s20:=cell_kept (p:=⟨w.heap.size + 1 + 1,0,none⟩) (v:=.bool false) (by exact q20) hb5;have s21:=cell_kept (p:=⟨w.heap.size + 1 + 1,1,none⟩) (v:=.slice none 0 0) (by exact q21) hb5;have s30:=cell_kept (p:=⟨w.heap.size + 1 + 1 + 1,0,none⟩) (v:=.bool false) (by exact q30) hb5;have s31:=cell_kept (p:=⟨w.heap.size + 1 + 1 + 1,1,none⟩) (v:=.slice none 0 0) (by exact q31) hb5;have sf20:=frozen_kept (p:=⟨w.heap.size + 1 + 1,0,none⟩) (b:=false) (by exact r20) hb5 (by have:=hs4;simp at this ⊢;omega);have sf21:=frozen_kept (p:=⟨w.heap.size + 1 + 1,1,none⟩) (b:=false) (by exact r21) hb5 (by have:=hs4;simp at this ⊢;omega);have sf30:=frozen_kept (p:=⟨w.heap.size + 1 + 1 + 1,0,none⟩) (b:=false) (by exact r30) hb5 (by have:=hs4;simp at this ⊢;omega);have sf31:=frozen_kept (p:=⟨w.heap.size + 1 + 1 + 1,1,none⟩) (b:=false) (by exact r31) hb5 (by have:=hs4;simp at this ⊢;omega);have hv4:=hv3.keep hb4;have hb5' : Below w3.heap.size w3 w5:=Below.trans (B:=w3.heap.size) (by repeat' first | exact Below.refl _ _ | assumption | refine Below.setCell ?_ ?_ _ | refine Below.alloc ?_ ?_ _ | refine below_drewN ?_ | refine Below.drew ?_ | (simp;done) | (simp;omega)) (Below.mono hb5 (Below.size (B:=w3.heap.size) (w:=w3) (by repeat' first | exact Below.refl _ _ | assumption | refine Below.setCell ?_ ?_ _ | refine Below.alloc ?_ ?_ _ | refine below_drewN ?_ | refine Below.drew ?_ | (simp;done) | (simp;omega))));have hv5q:=hv3.keep hb5';have hlow5:=hlow3.trans (hb5'.mono hlow3.size);have hs5:=hb5'.size))
  go_wp2_with fail
  have hne23 : w.heap.size + 1 + 1 + 1 ≠ w.heap.size + 1 + 1:=by omega
  have u30:=cell_set (a:=⟨w.heap.size + 1 + 1,1,none⟩) (u:=.slice p4 (Qd.lsz Q) c4) (cell_set (a:=⟨w.heap.size + 1 + 1,0,none⟩) (u:=.bool z) s30 hne23) hne23
  refine ret74_2 Tryz.results91 _ _ rfl rfl (.bool z) (.slice p4 (Qd.lsz Q) c4) (.bool false) (.slice p5 (Qd.lsz R) c5) (by go_simp) (by go_simp) (by go_simp) (by go_simp) rfl ?_
  exact ⟨_,_,rfl,Mg.set2 (Mg.set2 hv5q s20 _ _) u30 _ _,Mg.set2 (Mg.set2 hv5 s20 _ _) u30 _ _,(by repeat' first | exact Below.refl _ _ | assumption | refine Below.setCell ?_ ?_ _ | refine Below.alloc ?_ ?_ _ | refine below_drewN ?_ | refine Below.drew ?_ | (simp;done) | (simp;omega))⟩
end
end Go.Proofs.YtpbegoflpfdajaaGreatDoor
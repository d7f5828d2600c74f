/- WHAT IS PROVED: contracts of functions of the numbers package and laws for them, used by the last text of this claim. CONDITIONS: stated at each theorem. -/
import Derived.Deep.CutBlock
import Derived.Deep.DeepCutAuto
import Derived.Test.YtpbegoflpfdajaaGreatDoorB46
namespace Go.Proofs.YtpbegoflpfdajaaGreatDoor
open Go.RowKit
open Qd (lims)

theorem cbV_ok {x : ByteArray} {k : Nat} (hk : k <= 64) (h : cbV x.data.toList k = 0) : Okz x/\∃ a : Nat,vz x = a/\a < 2 ^ k/\valL x.data.toList = a:=by
  have ho : Okz x:=by
    unfold cbV at h
    split at h
    · assumption
    · exact h
  obtain ⟨h1,h2,h3⟩:=cbV_zero _ k hk h
  have h4:=cbV_okz hk ho
  rw [h] at h4
  have h5 : ¬ (vz x < 0 ∨ 2 ^ k <= vz x):=fun e=>by rw [if_pos e] at h4;omega
  refine ⟨ho,(vz x).toNat,by omega,?_,?_⟩
  · have:=cast_two k;omega
  · have hv:=vz_abs x
    have hs:=vz_sign x
    rw [show decide (vz x < 0) = false by simp;omega] at hs
    have : intM x.data.toList = valL x.data.toList:=by
      obtain ⟨g1,g2,g3,g4⟩:=okz_parts ho
      unfold intM
      rw [noMinus_dig _ (fun c hc=>by obtain ⟨j,hj,rfl⟩:=List.getElem_of_mem hc;simp only [isDig,decide_eq_true_eq];exact h1.2 j hj)]
    omega
theorem mags_nil (w : World) : Mags w (.slice none 0 0) (0 : Int).natAbs:=⟨none,0,by rw [show (0 : Int).natAbs = 0 from rfl,Qd.lsz_zero];rfl,by rw [show (0 : Int).natAbs = 0 from rfl,Qd.lsz_zero];exact Nat.le_refl _,fun h=>absurd (by rw [show (0 : Int).natAbs = 0 from rfl,Qd.lsz_zero];rfl) h⟩
theorem belZ (w : World) : Below w.heap.size w (w.alloc (.cells #[.bool false,.slice none 0 0] 74)):=(Below.refl _ _).alloc (Nat.le_refl _) _
theorem BigAt.slice {w : World} {t : Bool} {s : Value} {z : Int} (h : BigAt w (.agg #[.bool t,s]) z) : ∃ p c,s = .slice p (Qd.lsz z.natAbs) c/\True:=by
  obtain ⟨s',he,hs⟩:=h
  obtain ⟨p',c',rfl,_,_⟩:=hs.parts
  simp at he
  exact ⟨p',c',he.2,trivial⟩
theorem belD (w : World) : Below w.heap.size w w.drew:=(Below.refl _ _).drew
theorem bkZ2 (w : World) : Bk ((w.alloc (.cells #[.bool false,.slice none 0 0] 74)).alloc (.cells #[.bool false,.slice none 0 0] 74)) (w.heap.size + 1) 0 false (.slice none 0 0):=by
  have:=Bk.new (w.alloc (.cells #[.bool false,.slice none 0 0] 74)) (z:=0) (t:=false) rfl (mags_nil _)
  rwa [show (w.alloc (.cells #[.bool false,.slice none 0 0] 74)).heap.size = w.heap.size + 1 by simp] at this
theorem underZ (w : World) : (∀ o,((w.alloc (.cells #[.bool false,.slice none 0 0] 74)).alloc o).cell? ⟨w.heap.size,0,none⟩ = some (.bool false))/\(∀ o,((w.alloc (.cells #[.bool false,.slice none 0 0] 74)).alloc o).cell? ⟨w.heap.size,1,none⟩ = some (.slice none 0 0))/\(∀ o,((w.alloc (.cells #[.bool false,.slice none 0 0] 74)).alloc o).frozen? ⟨w.heap.size,0,none⟩ = false)/\∀ o,((w.alloc (.cells #[.bool false,.slice none 0 0] 74)).alloc o).frozen? ⟨w.heap.size,1,none⟩ = false:=by
  refine ⟨fun o=>?_,fun o=>?_,fun o=>?_,fun o=>?_⟩ <;> go_simp
def bitE (i k : Nat) (x y : ByteArray) : Int:=firstE [cbV x.data.toList k,cbV y.data.toList k,if (opB i && (y.toList == [48])) = true then 30 else 0]
theorem firstE_three {a b c : Int} (h : firstE [a,b,c] = 0) : a = 0/\b = 0/\c = 0:=by
  unfold firstE at h
  split at h
  · rename_i ha
    obtain ⟨hb,hc⟩:=firstE_two h
    exact ⟨ha,hb,hc⟩
  · contradiction
set_option maxHeartbeats 8000000 in
set_option maxRecDepth 100000 in
theorem refBits_go (x y : ByteArray) (i k : Nat) (hi : i < 10) (hk1 : 1 <= k) (hk : k <= 64) (sx : x.size <= 300) (sy : y.size <= 300) (w : World) : Calls Tryz.prog 58 #[.int .i64 i,.int .i64 k,.string x,.string y] w fun e w'=>e = .returned (if bitE i k x y = 0 then .tuple #[.string (tz (opZ i k (vz x).toNat (vz y).toNat % 2 ^ k)),.int .i64 0] else errT (bitE i k x y))/\Below w.heap.size w w':=by
  have C8:=Lib.hid (fun W=>refWhen_any false 8 W)
  have C3:=Lib.hid (fun W=>refWhen_any false 3 W)
  have C0:=Lib.hid (fun b W=>refWhen_any b 30 W)
  rw [show (if false = true then (8 : Int) else 0) = 0 from rfl] at C8
  rw [show (if false = true then (3 : Int) else 0) = 0 from rfl] at C3
  have Cx:=Lib.hid (fun W=>refCb_any x k hk sx W)
  have Cy:=Lib.hid (fun W=>refCb_any y k hk sy W)
  have hf2 : firstE [(0 : Int),0] = 0:=rfl
  have d1 : decide ((k : Int) < 1) = false:=by simp;omega
  have d2 : decide ((64 : Int) < (k : Int)) = false:=by simp;omega
  have d3 : decide ((i : Int) < 0) = false:=by simp
  have d4 : decide ((10 : Int) <= (i : Int)) = false:=by simp;omega
  have HOK:=Lib.hid (fun (h : bitE i k x y = 0)=>(⟨cbV_ok hk (firstE_three h).1,cbV_ok hk (firstE_three h).2.1,(firstE_three h).2.2⟩ : (Okz x/\∃ a : Nat,vz x = a/\a < 2 ^ k/\valL x.data.toList = a)/\(Okz y/\∃ a : Nat,vz y = a/\a < 2 ^ k/\valL y.data.toList = a)/\(if (opB i && (y.toList == [48])) = true then (30 : Int) else 0) = 0))
  obtain ⟨R,hR⟩ : ∃ v,Value.tuple #[.string (tz (opZ i k (vz x).toNat (vz y).toNat % 2 ^ k)),.int .i64 0] = v:=⟨_,rfl⟩
  rw [hR]
  obtain ⟨E,hE⟩ : ∃ E,bitE i k x y = E:=⟨_,rfl⟩
  rw [hE] at HOK ⊢
  unfold bitE at hE
  obtain ⟨E1,h1⟩ : ∃ E,cbV x.data.toList k = E:=⟨_,rfl⟩
  obtain ⟨E2,h2⟩ : ∃ E,cbV y.data.toList k = E:=⟨_,rfl⟩
  obtain ⟨bz,hbz⟩ : ∃ b,(y.toList == [48]) = b:=⟨_,rfl⟩
  rw [hbz] at hE HOK
  rw [h1] at Cx hE
  rw [h2] at Cy hE
  obtain ⟨E3,h3⟩ : ∃ E : Int,(if (opB i && bz) = true then 30 else 0) = E:=⟨_,rfl⟩
  rw [h3] at hE HOK
  have H3:=Lib.hid h3
  have HE:=Lib.hid hE
  have HR:=Lib.hid hR
  obtain ⟨V,hV⟩ : ∃ v,(if E = 0 then R else errT E) = v:=⟨_,rfl⟩
  rw [hV]
  have HV:=Lib.hid hV
  clear h1 h2 h3 hE hR hV
  go_enter Tryz.func58,Tryz.ntmps58
  go_upto_region 4 with (first
      | (go_at_call 65;(with_reducible refine (C8.out _).mono ?_);rintro e wb ⟨rfl,hw⟩;subst wb)
      | (go_at_call 65;(with_reducible refine (C3.out _).mono ?_);rintro e wb ⟨rfl,hw⟩;subst wb)
      | (go_at_call 79;(with_reducible refine (refFirst_any _ 2 2 [(0 : Int),0] rfl (by omega) _ (pair_cells _ 0 0 3)).mono ?_);rintro e wc ⟨rfl,hw⟩;subst wc;rw [hf2]))
  have HB:=Lib.hid (show Below w.heap.size w (w.alloc (.cells #[.int .i64 0,.int .i64 0] 3)) from (by repeat' first | exact Below.refl _ _ | assumption | refine Below.setCell ?_ ?_ _ | refine Below.alloc ?_ ?_ _ | refine below_drewN ?_ | refine Below.drew ?_ | (simp;done) | (simp;omega)))
  clear hf2 d1 d2 d3 d4 C8 C3
  generalize w.alloc (.cells #[.int .i64 0,.int .i64 0] 3) = W1 at *
  go_cut [11] (fun s11 wx=>s11 = .int .i64 E/\Below w.heap.size w wx)
  case first =>
    rcases (show (opB i = true/\i = 3) ∨ (opB i = true/\i = 4) ∨ (opB i = false/\i ≠ 3/\i ≠ 4) by unfold opB;by_cases h3 : i = 3 <;> by_cases h4 : i = 4 <;> simp [h3,h4]) with ⟨ho,rfl⟩ | ⟨ho,rfl⟩ | ⟨ho,n3,n4⟩
    · rw [ho,Bool.true_and] at H3
      have C0b:=Lib.hid (C0.out bz);rw [H3.out] at C0b
      clear ho C0 HOK HR H3
      go_wp2_with (first
      | (go_at_call 130;(with_reducible refine (Cx.out _).mono ?_);rintro e wa ⟨rfl,hwa⟩;have hla:=HB.out.trans (hwa.mono HB.out.size);clear hwa)
      | (go_at_call 130;(with_reducible refine (Cy.out _).mono ?_);rintro e wb ⟨rfl,hwb⟩;have hlb:=hla.trans (hwb.mono hla.size);clear hwb hla)
      | (go_at_call 65;(with_reducible refine (C0b.out _).mono ?_);rintro e wd ⟨rfl,hw⟩;subst wd)
      | (go_at_call 79;(with_reducible refine (refFirst_any _ 3 3 [E1,E2,E3] rfl (by omega) _ (three_cells _ E1 E2 E3 3)).mono ?_);rintro e wc ⟨rfl,hw⟩;subst wc;rw [HE.out]))
      go_meet
      exact ⟨rfl,hlb.alloc hlb.size _⟩
    · rw [ho,Bool.true_and] at H3
      have C0b:=Lib.hid (C0.out bz);rw [H3.out] at C0b
      clear ho C0 HOK HR H3
      go_wp2_with (first
      | (go_at_call 130;(with_reducible refine (Cx.out _).mono ?_);rintro e wa ⟨rfl,hwa⟩;have hla:=HB.out.trans (hwa.mono HB.out.size);clear hwa)
      | (go_at_call 130;(with_reducible refine (Cy.out _).mono ?_);rintro e wb ⟨rfl,hwb⟩;have hlb:=hla.trans (hwb.mono hla.size);clear hwb hla)
      | (go_at_call 65;(with_reducible refine (C0b.out _).mono ?_);rintro e wd ⟨rfl,hw⟩;subst wd)
      | (go_at_call 79;(with_reducible refine (refFirst_any _ 3 3 [E1,E2,E3] rfl (by omega) _ (three_cells _ E1 E2 E3 3)).mono ?_);rintro e wc ⟨rfl,hw⟩;subst wc;rw [HE.out]))
      go_meet
      exact ⟨rfl,hlb.alloc hlb.size _⟩
    · rw [ho,Bool.false_and] at H3
      have C0b:=Lib.hid (C0.out false);rw [H3.out] at C0b
      have f3 : ((i : Int) == 3) = false:=by simp;omega
      have f4 : ((i : Int) == 4) = false:=by simp;omega
      have g3 : decide ((i : Int) = 3) = false:=by simp;omega
      have g4 : decide ((i : Int) = 4) = false:=by simp;omega
      clear ho C0 HOK HR H3 n3 n4
      go_wp2_with (first
      | (go_at_call 130;(with_reducible refine (Cx.out _).mono ?_);rintro e wa ⟨rfl,hwa⟩;have hla:=HB.out.trans (hwa.mono HB.out.size);clear hwa)
      | (go_at_call 130;(with_reducible refine (Cy.out _).mono ?_);rintro e wb ⟨rfl,hwb⟩;have hlb:=hla.trans (hwb.mono hla.size);clear hwb hla)
      | (go_at_call 65;(with_reducible refine (C0b.out _).mono ?_);rintro e wd ⟨rfl,hw⟩;subst wd)
      | (go_at_call 79;(with_reducible refine (refFirst_any _ 3 3 [E1,E2,E3] rfl (by omega) _ (three_cells _ E1 E2 E3 3)).mono ?_);rintro e wc ⟨rfl,hw⟩;subst wc;rw [HE.out]))
      go_meet
      exact ⟨rfl,hlb.alloc hlb.size _⟩
  case rest =>
  obtain ⟨rfl,hl⟩:=hcut
  by_cases hE0 : E = 0
  case neg =>
    have hV:=HV.out
    rw [if_neg hE0] at hV
    have HV:=Lib.hid hV
    have d0 : (E != 0) = true:=by simpa using hE0
    clear hV hE0 HOK HR C0 Cx Cy H3 HE hbz
    go_wp2
    go_ret2
    exact ⟨by rw [<- HV.out];rfl,hl⟩
  case pos =>
  subst hE0
  have hV:=HV.out
  rw [if_pos rfl] at hV
  have HV:=Lib.hid hV
  clear hV
  obtain ⟨⟨ox,a,va,la,_⟩,⟨oy,b,vb,lb,_⟩,hz⟩:=HOK.out rfl
  have hzb : opB i = true->b ≠ 0:=fun h=>by
    intro hb0
    subst hb0
    have:=zero_text oy
    rw [vb,hbz] at this
    rw [h,this,Bool.true_and] at H3
    have:=H3.out
    rw [hz] at this
    simp at this
  have Rx:=Lib.hid (fun W=>refReadZ x ox W)
  have Ry:=Lib.hid (fun W=>refReadZ y oy W)
  rw [va] at Rx
  rw [vb] at Ry
  have HR':=HR.out
  rw [va,vb,Int.toNat_natCast,Int.toNat_natCast] at HR'
  have HR:=Lib.hid HR'
  have HL:=Lib.hid (⟨la,lb,hzb,hi⟩ : a < 2 ^ k/\b < 2 ^ k/\(opB i = true->b ≠ 0)/\i < 10)
  have Hl:=Lib.hid hl
  clear HOK HR' C0 Cx Cy H3 HE hbz ox oy va vb la lb hz hzb hi hl HB
  go_upto_block 0 with (first
      | (go_at_call 70;(with_reducible refine (Rx.out _).mono ?_);rintro e w1 ⟨v1,rfl,hg1,hb1⟩;have hl1:=Hl.out.trans (hb1.mono Hl.out.size);obtain ⟨s1,rfl,hm1⟩:=big_nat_inv hg1;obtain ⟨p1,c1,rfl,_,_⟩:=hm1.parts;clear hg1 hb1 Hl)
      | (go_at_call 70;(with_reducible refine (Ry.out _).mono ?_);rintro e w2 ⟨v2,rfl,hg2,hb2⟩;have hl2:=hl1.trans (hb2.mono hl1.size);have hm1':=hm1.keep hb2;obtain ⟨s2,rfl,hm2⟩:=big_nat_inv hg2;obtain ⟨p2,c2,rfl,_,_⟩:=hm2.parts;clear hg2 hb2 hl1 hm1))
  have hl0 : Below w.heap.size w (((w2.alloc (.cells #[.bool false,.slice p1 (Qd.lsz a) c1] 74)).alloc (.cells #[.bool false,.slice p2 (Qd.lsz b) c2] 74)).alloc (.cells #[.bool false,.slice none 0 0] 74)):=((hl2.alloc hl2.size _).alloc (by have:=hl2.size;simp;omega) _).alloc (by have:=hl2.size;simp;omega) _
  have hB0 : Below w2.heap.size w2 (((w2.alloc (.cells #[.bool false,.slice p1 (Qd.lsz a) c1] 74)).alloc (.cells #[.bool false,.slice p2 (Qd.lsz b) c2] 74)).alloc (.cells #[.bool false,.slice none 0 0] 74)):=(by repeat' first | exact Below.refl _ _ | assumption | refine Below.setCell ?_ ?_ _ | refine Below.alloc ?_ ?_ _ | refine below_drewN ?_ | refine Below.drew ?_ | (simp;done) | (simp;omega))
  have X0 : Bk (((w2.alloc (.cells #[.bool false,.slice p1 (Qd.lsz a) c1] 74)).alloc (.cells #[.bool false,.slice p2 (Qd.lsz b) c2] 74)).alloc (.cells #[.bool false,.slice none 0 0] 74)) w2.heap.size (a : Int) false (.slice p1 (Qd.lsz a) c1):={ c0:=by go_simp,c1:=by go_simp,f0:=by go_simp,f1:=by go_simp,ht:=by simp,m:=by rw [abs_up];exact hm1'.keep hB0,lt:=by simp;omega }
  have Y0 : Bk (((w2.alloc (.cells #[.bool false,.slice p1 (Qd.lsz a) c1] 74)).alloc (.cells #[.bool false,.slice p2 (Qd.lsz b) c2] 74)).alloc (.cells #[.bool false,.slice none 0 0] 74)) (w2.heap.size + 1) (b : Int) false (.slice p2 (Qd.lsz b) c2):={ c0:=by go_simp,c1:=by go_simp,f0:=by go_simp,f1:=by go_simp,ht:=by simp,m:=by rw [abs_up];exact hm2.keep hB0,lt:=by simp }
  have O0 : Bk (((w2.alloc (.cells #[.bool false,.slice p1 (Qd.lsz a) c1] 74)).alloc (.cells #[.bool false,.slice p2 (Qd.lsz b) c2] 74)).alloc (.cells #[.bool false,.slice none 0 0] 74)) (w2.heap.size + 1 + 1) 0 false (.slice none 0 0):={ c0:=by go_simp,c1:=by go_simp,f0:=by go_simp,f1:=by go_simp,ht:=by simp,m:=mags_nil _,lt:=by simp }
  have hDw : w.heap.size <= w2.heap.size:=hl2.size
  obtain ⟨D,hD⟩ : ∃ d,w2.heap.size = d:=⟨_,rfl⟩
  rw [hD] at X0 Y0 O0 hDw
  simp only [hD]
  clear hD hB0 hm1' hm2 hl2 Rx Ry
  generalize (((w2.alloc (.cells #[.bool false,.slice p1 (Qd.lsz a) c1] 74)).alloc (.cells #[.bool false,.slice p2 (Qd.lsz b) c2] 74)).alloc (.cells #[.bool false,.slice none 0 0] 74)) = W0 at *
  obtain ⟨n1,hn1⟩ : ∃ n,Qd.lsz a = n:=⟨_,rfl⟩
  obtain ⟨n2,hn2⟩ : ∃ n,Qd.lsz b = n:=⟨_,rfl⟩
  rw [hn1] at X0
  rw [hn2] at Y0
  have N1:=Lib.hid hn1;have N2:=Lib.hid hn2
  clear hn1 hn2
  have x0:=X0.c0;have x1:=X0.c1;have y0:=Y0.c0;have y1:=Y0.c1;have o0:=O0.c0;have o1:=O0.c1;have o2:=O0.f0;have o3:=O0.f1
  have hX:=Lib.hid X0;have hY:=Lib.hid Y0;have hO:=Lib.hid O0;have hL:=Lib.hid hl0
  have hDs:=O0.lt
  clear X0 Y0 O0 hl0
  go_cut [] (fun wx=>∃ z t s,Bk wx (D + 1 + 1) z t s/\z = opZ i k a b/\Below w.heap.size w wx)
  case first =>
    obtain ⟨la,lb,hzb,hi⟩:=HL.out
    have h64 : 2 ^ k <= 2 ^ 64:=Nat.pow_le_pow_right (by omega) hk
    have sa:=lsz_two (n:=a) (by omega)
    have sb:=lsz_two (n:=b) (by omega)
    have ga:=hX.out.big;have gb:=hY.out.big
    have HGA:=Lib.hid ga;have HGB:=Lib.hid gb
    clear ga gb HL
    rcases (show i = 0 ∨ i = 1 ∨ i = 2 ∨ i = 3 ∨ i = 4 ∨ i = 5 ∨ i = 6 ∨ i = 7 ∨ i = 8 ∨ i = 9 by omega) with rfl | rfl | rfl | rfl | rfl | rfl | rfl | rfl | rfl | rfl
    · have C:=Lib.hid (fun W v1 v2 (g1 : BigAt W v1 (a : Nat)) (g2 : BigAt W v2 (b : Nat))=>refPlus_any v1 v2 a b (by rw [abs_up];omega) (by rw [abs_up];omega) W g1 g2)
      clear hi hzb sa sb h64 la lb
      go_wp2_with (first | (go_at_call 80;(with_reducible refine (C.out _ _ _ (HGA.out.keep (by repeat' first | exact Below.refl _ _ | assumption | refine Below.setCell ?_ ?_ _ | refine Below.alloc ?_ ?_ _ | refine below_drewN ?_ | refine Below.drew ?_ | (simp;done) | (simp;omega))) (HGB.out.keep (by repeat' first | exact Below.refl _ _ | assumption | refine Below.setCell ?_ ?_ _ | refine Below.alloc ?_ ?_ _ | refine below_drewN ?_ | refine Below.drew ?_ | (simp;done) | (simp;omega)))).mono ?_);rintro e w5 ⟨v5,rfl,hg5,hb5⟩;have hb5q:=Below.trans (a:=W0) (B:=W0.heap.size) (by repeat' first | exact Below.refl _ _ | assumption | refine Below.setCell ?_ ?_ _ | refine Below.alloc ?_ ?_ _ | refine below_drewN ?_ | refine Below.drew ?_ | (simp;done) | (simp;omega)) (Below.mono hb5 (Below.size (B:=W0.heap.size) (w:=W0) (by repeat' first | exact Below.refl _ _ | assumption | refine Below.setCell ?_ ?_ _ | refine Below.alloc ?_ ?_ _ | refine below_drewN ?_ | refine Below.drew ?_ | (simp;done) | (simp;omega))));obtain ⟨t5,p5,c5,rfl,ht5,hm5⟩:=hg5.opened;have j0:=cell_kept o0 hb5q;have j1:=cell_kept o1 hb5q;have j2:=frozen_kept o2 hb5q (by simp;omega);have j3:=frozen_kept o3 hb5q (by simp;omega)))
      go_meet
      exact ⟨_,_,_,(hO.out.keep hb5q).set ht5 hm5,(zN0 k a b).1.symm,((hL.out.trans (hb5q.mono hL.out.size)).setCell (p:=⟨D + 1 + 1,0,none⟩) (by simp;omega) _).setCell (p:=⟨D + 1 + 1,1,none⟩) (by simp;omega) _⟩
    · have C:=Lib.hid (fun W v1 v2 (g1 : BigAt W v1 (a : Nat)) (g2 : BigAt W v2 (b : Nat))=>refMinus_any v1 v2 a b (by rw [abs_up];omega) (by rw [abs_up];omega) W g1 g2)
      clear hi hzb sa sb h64 la lb
      go_wp2_with (first | (go_at_call 82;(with_reducible refine (C.out _ _ _ (HGA.out.keep (by repeat' first | exact Below.refl _ _ | assumption | refine Below.setCell ?_ ?_ _ | refine Below.alloc ?_ ?_ _ | refine below_drewN ?_ | refine Below.drew ?_ | (simp;done) | (simp;omega))) (HGB.out.keep (by repeat' first | exact Below.refl _ _ | assumption | refine Below.setCell ?_ ?_ _ | refine Below.alloc ?_ ?_ _ | refine below_drewN ?_ | refine Below.drew ?_ | (simp;done) | (simp;omega)))).mono ?_);rintro e w5 ⟨v5,rfl,hg5,hb5⟩;have hb5q:=Below.trans (a:=W0) (B:=W0.heap.size) (by repeat' first | exact Below.refl _ _ | assumption | refine Below.setCell ?_ ?_ _ | refine Below.alloc ?_ ?_ _ | refine below_drewN ?_ | refine Below.drew ?_ | (simp;done) | (simp;omega)) (Below.mono hb5 (Below.size (B:=W0.heap.size) (w:=W0) (by repeat' first | exact Below.refl _ _ | assumption | refine Below.setCell ?_ ?_ _ | refine Below.alloc ?_ ?_ _ | refine below_drewN ?_ | refine Below.drew ?_ | (simp;done) | (simp;omega))));obtain ⟨t5,p5,c5,rfl,ht5,hm5⟩:=hg5.opened;have j0:=cell_kept o0 hb5q;have j1:=cell_kept o1 hb5q;have j2:=frozen_kept o2 hb5q (by simp;omega);have j3:=frozen_kept o3 hb5q (by simp;omega)))
      go_meet
      exact ⟨_,_,_,(hO.out.keep hb5q).set ht5 hm5,(zN1 k a b).1.symm,((hL.out.trans (hb5q.mono hL.out.size)).setCell (p:=⟨D + 1 + 1,0,none⟩) (by simp;omega) _).setCell (p:=⟨D + 1 + 1,1,none⟩) (by simp;omega) _⟩
    · have C:=Lib.hid (fun W v1 v2 (g1 : BigAt W v1 (a : Nat)) (g2 : BigAt W v2 (b : Nat))=>refTimes_any v1 v2 a b (by rw [abs_up];omega) (by rw [abs_up];omega) W g1 g2)
      clear hi hzb sa sb h64 la lb
      go_wp2_with (first | (go_at_call 84;(with_reducible refine (C.out _ _ _ (HGA.out.keep (by repeat' first | exact Below.refl _ _ | assumption | refine Below.setCell ?_ ?_ _ | refine Below.alloc ?_ ?_ _ | refine below_drewN ?_ | refine Below.drew ?_ | (simp;done) | (simp;omega))) (HGB.out.keep (by repeat' first | exact Below.refl _ _ | assumption | refine Below.setCell ?_ ?_ _ | refine Below.alloc ?_ ?_ _ | refine below_drewN ?_ | refine Below.drew ?_ | (simp;done) | (simp;omega)))).mono ?_);rintro e w5 ⟨v5,rfl,hg5,hb5⟩;have hb5q:=Below.trans (a:=W0) (B:=W0.heap.size) (by repeat' first | exact Below.refl _ _ | assumption | refine Below.setCell ?_ ?_ _ | refine Below.alloc ?_ ?_ _ | refine below_drewN ?_ | refine Below.drew ?_ | (simp;done) | (simp;omega)) (Below.mono hb5 (Below.size (B:=W0.heap.size) (w:=W0) (by repeat' first | exact Below.refl _ _ | assumption | refine Below.setCell ?_ ?_ _ | refine Below.alloc ?_ ?_ _ | refine below_drewN ?_ | refine Below.drew ?_ | (simp;done) | (simp;omega))));obtain ⟨t5,p5,c5,rfl,ht5,hm5⟩:=hg5.opened;have j0:=cell_kept o0 hb5q;have j1:=cell_kept o1 hb5q;have j2:=frozen_kept o2 hb5q (by simp;omega);have j3:=frozen_kept o3 hb5q (by simp;omega)))
      go_meet
      exact ⟨_,_,_,(hO.out.keep hb5q).set ht5 hm5,(zN2 k a b).1.symm,((hL.out.trans (hb5q.mono hL.out.size)).setCell (p:=⟨D + 1 + 1,0,none⟩) (by simp;omega) _).setCell (p:=⟨D + 1 + 1,1,none⟩) (by simp;omega) _⟩
    · have C:=Lib.hid (fun W v1 v2 (g1 : BigAt W v1 (a : Nat)) (g2 : BigAt W v2 (b : Nat))=>refOver_any v1 v2 a b (by have:=hzb rfl;omega) (by rw [abs_up];omega) (by rw [abs_up];omega) W g1 g2)
      clear hi hzb sa sb h64 la lb
      go_wp2_with (first | (go_at_call 91;(with_reducible refine (C.out _ _ _ (HGA.out.keep (by repeat' first | exact Below.refl _ _ | assumption | refine Below.setCell ?_ ?_ _ | refine Below.alloc ?_ ?_ _ | refine below_drewN ?_ | refine Below.drew ?_ | (simp;done) | (simp;omega))) (HGB.out.keep (by repeat' first | exact Below.refl _ _ | assumption | refine Below.setCell ?_ ?_ _ | refine Below.alloc ?_ ?_ _ | refine below_drewN ?_ | refine Below.drew ?_ | (simp;done) | (simp;omega)))).mono ?_);rintro e w5 ⟨v5,r5,rfl,hg5,hgr5,hb5⟩;have hb5q:=Below.trans (a:=W0) (B:=W0.heap.size) (by repeat' first | exact Below.refl _ _ | assumption | refine Below.setCell ?_ ?_ _ | refine Below.alloc ?_ ?_ _ | refine below_drewN ?_ | refine Below.drew ?_ | (simp;done) | (simp;omega)) (Below.mono hb5 (Below.size (B:=W0.heap.size) (w:=W0) (by repeat' first | exact Below.refl _ _ | assumption | refine Below.setCell ?_ ?_ _ | refine Below.alloc ?_ ?_ _ | refine below_drewN ?_ | refine Below.drew ?_ | (simp;done) | (simp;omega))));obtain ⟨t5,p5,c5,rfl,ht5,hm5⟩:=hg5.opened;have j0:=cell_kept o0 hb5q;have j1:=cell_kept o1 hb5q;have j2:=frozen_kept o2 hb5q (by simp;omega);have j3:=frozen_kept o3 hb5q (by simp;omega);obtain ⟨t6,p6,k6,c6,rfl⟩:=hgr5.shape))
      go_meet
      exact ⟨_,_,_,(hO.out.keep hb5q).set ht5 hm5,(zN3 k a b).1.symm,((hL.out.trans (hb5q.mono hL.out.size)).setCell (p:=⟨D + 1 + 1,0,none⟩) (by simp;omega) _).setCell (p:=⟨D + 1 + 1,1,none⟩) (by simp;omega) _⟩
    · have C:=Lib.hid (fun W v1 v2 (g1 : BigAt W v1 (a : Nat)) (g2 : BigAt W v2 (b : Nat))=>refOver_any v1 v2 a b (by have:=hzb rfl;omega) (by rw [abs_up];omega) (by rw [abs_up];omega) W g1 g2)
      clear hi hzb sa sb h64 la lb
      go_wp2_with (first | (go_at_call 91;(with_reducible refine (C.out _ _ _ (HGA.out.keep (by repeat' first | exact Below.refl _ _ | assumption | refine Below.setCell ?_ ?_ _ | refine Below.alloc ?_ ?_ _ | refine below_drewN ?_ | refine Below.drew ?_ | (simp;done) | (simp;omega))) (HGB.out.keep (by repeat' first | exact Below.refl _ _ | assumption | refine Below.setCell ?_ ?_ _ | refine Below.alloc ?_ ?_ _ | refine below_drewN ?_ | refine Below.drew ?_ | (simp;done) | (simp;omega)))).mono ?_);rintro e w5 ⟨r5,v5,rfl,hgr5,hg5,hb5⟩;have hb5q:=Below.trans (a:=W0) (B:=W0.heap.size) (by repeat' first | exact Below.refl _ _ | assumption | refine Below.setCell ?_ ?_ _ | refine Below.alloc ?_ ?_ _ | refine below_drewN ?_ | refine Below.drew ?_ | (simp;done) | (simp;omega)) (Below.mono hb5 (Below.size (B:=W0.heap.size) (w:=W0) (by repeat' first | exact Below.refl _ _ | assumption | refine Below.setCell ?_ ?_ _ | refine Below.alloc ?_ ?_ _ | refine below_drewN ?_ | refine Below.drew ?_ | (simp;done) | (simp;omega))));obtain ⟨t5,p5,c5,rfl,ht5,hm5⟩:=hg5.opened;have j0:=cell_kept o0 hb5q;have j1:=cell_kept o1 hb5q;have j2:=frozen_kept o2 hb5q (by simp;omega);have j3:=frozen_kept o3 hb5q (by simp;omega);obtain ⟨t6,p6,k6,c6,rfl⟩:=hgr5.shape))
      go_meet
      exact ⟨_,_,_,(hO.out.keep hb5q).set ht5 hm5,(zN4 k a b).1.symm,((hL.out.trans (hb5q.mono hL.out.size)).setCell (p:=⟨D + 1 + 1,0,none⟩) (by simp;omega) _).setCell (p:=⟨D + 1 + 1,1,none⟩) (by simp;omega) _⟩
    · have C:=Lib.hid (fun W v1 v2 (g1 : BigAt W v1 (a : Nat)) (g2 : BigAt W v2 (b : Nat))=>show Calls Tryz.prog 132 #[.int .i64 5,v1,v2] W (fun e w'=>∃ v,e = .returned v/\BigAt w' v (opN 5 a b : Nat)/\Below W.heap.size W w') from refBitwise_any 5 (Or.inl rfl) v1 v2 a b (by omega) (by omega) W g1 g2)
      clear hi hzb sa sb h64 la lb
      go_wp2_with (first | (go_at_call 132;(with_reducible refine (C.out _ _ _ (HGA.out.keep (by repeat' first | exact Below.refl _ _ | assumption | refine Below.setCell ?_ ?_ _ | refine Below.alloc ?_ ?_ _ | refine below_drewN ?_ | refine Below.drew ?_ | (simp;done) | (simp;omega))) (HGB.out.keep (by repeat' first | exact Below.refl _ _ | assumption | refine Below.setCell ?_ ?_ _ | refine Below.alloc ?_ ?_ _ | refine below_drewN ?_ | refine Below.drew ?_ | (simp;done) | (simp;omega)))).mono ?_);rintro e w5 ⟨v5,rfl,hg5,hb5⟩;have hb5q:=Below.trans (a:=W0) (B:=W0.heap.size) (by repeat' first | exact Below.refl _ _ | assumption | refine Below.setCell ?_ ?_ _ | refine Below.alloc ?_ ?_ _ | refine below_drewN ?_ | refine Below.drew ?_ | (simp;done) | (simp;omega)) (Below.mono hb5 (Below.size (B:=W0.heap.size) (w:=W0) (by repeat' first | exact Below.refl _ _ | assumption | refine Below.setCell ?_ ?_ _ | refine Below.alloc ?_ ?_ _ | refine below_drewN ?_ | refine Below.drew ?_ | (simp;done) | (simp;omega))));obtain ⟨t5,p5,c5,rfl,ht5,hm5⟩:=hg5.opened;have j0:=cell_kept o0 hb5q;have j1:=cell_kept o1 hb5q;have j2:=frozen_kept o2 hb5q (by simp;omega);have j3:=frozen_kept o3 hb5q (by simp;omega)))
      go_meet
      exact ⟨_,_,_,(hO.out.keep hb5q).set ht5 hm5,(zN5 5 k a b (Or.inl rfl)).symm,((hL.out.trans (hb5q.mono hL.out.size)).setCell (p:=⟨D + 1 + 1,0,none⟩) (by simp;omega) _).setCell (p:=⟨D + 1 + 1,1,none⟩) (by simp;omega) _⟩
    · have C:=Lib.hid (fun W v1 v2 (g1 : BigAt W v1 (a : Nat)) (g2 : BigAt W v2 (b : Nat))=>show Calls Tryz.prog 132 #[.int .i64 6,v1,v2] W (fun e w'=>∃ v,e = .returned v/\BigAt w' v (opN 6 a b : Nat)/\Below W.heap.size W w') from refBitwise_any 6 (Or.inr (Or.inl rfl)) v1 v2 a b (by omega) (by omega) W g1 g2)
      clear hi hzb sa sb h64 la lb
      go_wp2_with (first | (go_at_call 132;(with_reducible refine (C.out _ _ _ (HGA.out.keep (by repeat' first | exact Below.refl _ _ | assumption | refine Below.setCell ?_ ?_ _ | refine Below.alloc ?_ ?_ _ | refine below_drewN ?_ | refine Below.drew ?_ | (simp;done) | (simp;omega))) (HGB.out.keep (by repeat' first | exact Below.refl _ _ | assumption | refine Below.setCell ?_ ?_ _ | refine Below.alloc ?_ ?_ _ | refine below_drewN ?_ | refine Below.drew ?_ | (simp;done) | (simp;omega)))).mono ?_);rintro e w5 ⟨v5,rfl,hg5,hb5⟩;have hb5q:=Below.trans (a:=W0) (B:=W0.heap.size) (by repeat' first | exact Below.refl _ _ | assumption | refine Below.setCell ?_ ?_ _ | refine Below.alloc ?_ ?_ _ | refine below_drewN ?_ | refine Below.drew ?_ | (simp;done) | (simp;omega)) (Below.mono hb5 (Below.size (B:=W0.heap.size) (w:=W0) (by repeat' first | exact Below.refl _ _ | assumption | refine Below.setCell ?_ ?_ _ | refine Below.alloc ?_ ?_ _ | refine below_drewN ?_ | refine Below.drew ?_ | (simp;done) | (simp;omega))));obtain ⟨t5,p5,c5,rfl,ht5,hm5⟩:=hg5.opened;have j0:=cell_kept o0 hb5q;have j1:=cell_kept o1 hb5q;have j2:=frozen_kept o2 hb5q (by simp;omega);have j3:=frozen_kept o3 hb5q (by simp;omega)))
      go_meet
      exact ⟨_,_,_,(hO.out.keep hb5q).set ht5 hm5,(zN5 6 k a b (Or.inr (Or.inl rfl))).symm,((hL.out.trans (hb5q.mono hL.out.size)).setCell (p:=⟨D + 1 + 1,0,none⟩) (by simp;omega) _).setCell (p:=⟨D + 1 + 1,1,none⟩) (by simp;omega) _⟩
    · have C:=Lib.hid (fun W v1 v2 (g1 : BigAt W v1 (a : Nat)) (g2 : BigAt W v2 (b : Nat))=>show Calls Tryz.prog 132 #[.int .i64 7,v1,v2] W (fun e w'=>∃ v,e = .returned v/\BigAt w' v (opN 7 a b : Nat)/\Below W.heap.size W w') from refBitwise_any 7 (Or.inr (Or.inr rfl)) v1 v2 a b (by omega) (by omega) W g1 g2)
      clear hi hzb sa sb h64 la lb
      go_wp2_with (first | (go_at_call 132;(with_reducible refine (C.out _ _ _ (HGA.out.keep (by repeat' first | exact Below.refl _ _ | assumption | refine Below.setCell ?_ ?_ _ | refine Below.alloc ?_ ?_ _ | refine below_drewN ?_ | refine Below.drew ?_ | (simp;done) | (simp;omega))) (HGB.out.keep (by repeat' first | exact Below.refl _ _ | assumption | refine Below.setCell ?_ ?_ _ | refine Below.alloc ?_ ?_ _ | refine below_drewN ?_ | refine Below.drew ?_ | (simp;done) | (simp;omega)))).mono ?_);rintro e w5 ⟨v5,rfl,hg5,hb5⟩;have hb5q:=Below.trans (a:=W0) (B:=W0.heap.size) (by repeat' first | exact Below.refl _ _ | assumption | refine Below.setCell ?_ ?_ _ | refine Below.alloc ?_ ?_ _ | refine below_drewN ?_ | refine Below.drew ?_ | (simp;done) | (simp;omega)) (Below.mono hb5 (Below.size (B:=W0.heap.size) (w:=W0) (by repeat' first | exact Below.refl _ _ | assumption | refine Below.setCell ?_ ?_ _ | refine Below.alloc ?_ ?_ _ | refine below_drewN ?_ | refine Below.drew ?_ | (simp;done) | (simp;omega))));obtain ⟨t5,p5,c5,rfl,ht5,hm5⟩:=hg5.opened;have j0:=cell_kept o0 hb5q;have j1:=cell_kept o1 hb5q;have j2:=frozen_kept o2 hb5q (by simp;omega);have j3:=frozen_kept o3 hb5q (by simp;omega)))
      go_meet
      exact ⟨_,_,_,(hO.out.keep hb5q).set ht5 hm5,(zN5 7 k a b (Or.inr (Or.inr rfl))).symm,((hL.out.trans (hb5q.mono hL.out.size)).setCell (p:=⟨D + 1 + 1,0,none⟩) (by simp;omega) _).setCell (p:=⟨D + 1 + 1,1,none⟩) (by simp;omega) _⟩
    · have CS:=Lib.hid (fun W v (g : BigAt W v (b : Nat))=>by have:=refShift_any v b (by omega) (by rw [abs_up];omega) k hk W g;rwa [show (if (k : Int) <= (b : Int) then (k : Int) else (b : Int)) = ((min b k : Nat) : Int) by split <;> omega] at this)
      have CP:=Lib.hid (fun W=>refPower_any (min b k) (by omega) W)
      have C:=Lib.hid (fun W v1 v2 (g1 : BigAt W v1 (a : Nat)) (g2 : BigAt W v2 (2 ^ min b k))=>refTimes_any v1 v2 a (2 ^ min b k) (by rw [abs_up];omega) (by have:=two_lsz (j:=min b k) (by omega);omega) W g1 g2)
      obtain ⟨mn,hmn⟩ : ∃ m,min b k = m:=⟨_,rfl⟩
      have HM:=Lib.hid hmn
      rw [hmn] at CS CP C
      clear hi hzb sa sb h64 la lb hmn
      go_upto_region 22 with fail
      go_region_with (first
        | (go_at_call 131;(with_reducible refine (CS.out _ _ (HGB.out.keep (by repeat' first | exact Below.refl _ _ | assumption | refine Below.setCell ?_ ?_ _ | refine Below.alloc ?_ ?_ _ | refine below_drewN ?_ | refine Below.drew ?_ | (simp;done) | (simp;omega)))).mono ?_);rintro e w3 ⟨rfl,hb3⟩;have hb3q:=Below.trans (a:=W0) (B:=W0.heap.size) (by repeat' first | exact Below.refl _ _ | assumption | refine Below.setCell ?_ ?_ _ | refine Below.alloc ?_ ?_ _ | refine below_drewN ?_ | refine Below.drew ?_ | (simp;done) | (simp;omega)) (Below.mono hb3 (Below.size (B:=W0.heap.size) (w:=W0) (by repeat' first | exact Below.refl _ _ | assumption | refine Below.setCell ?_ ?_ _ | refine Below.alloc ?_ ?_ _ | refine below_drewN ?_ | refine Below.drew ?_ | (simp;done) | (simp;omega))));have k0:=cell_kept x0 hb3q;have k1:=cell_kept x1 hb3q)
        | (go_at_call 126;(with_reducible refine (CP.out _).mono ?_);rintro e w4 ⟨v4,rfl,hg4,hb4⟩;obtain ⟨t4,p4,k4,c4,rfl⟩:=hg4.shape;have hb4q:=Below.trans hb3q (Below.trans (a:=w3) (B:=W0.heap.size) (by repeat' first | exact Below.refl _ _ | assumption | refine Below.setCell ?_ ?_ _ | refine Below.alloc ?_ ?_ _ | refine below_drewN ?_ | refine Below.drew ?_ | (simp;done) | (simp;omega)) (Below.mono hb4 (by have:=hb3q.size;simp;omega)));have l0:=cell_kept x0 hb4q;have l1:=cell_kept x1 hb4q;have hga4:=HGA.out.keep hb4q)
        | (go_at_call 84;(with_reducible refine (C.out _ _ _ (hga4.keep (by repeat' first | exact Below.refl _ _ | assumption | refine Below.setCell ?_ ?_ _ | refine Below.alloc ?_ ?_ _ | refine below_drewN ?_ | refine Below.drew ?_ | (simp;done) | (simp;omega))) (hg4.keep (by repeat' first | exact Below.refl _ _ | assumption | refine Below.setCell ?_ ?_ _ | refine Below.alloc ?_ ?_ _ | refine below_drewN ?_ | refine Below.drew ?_ | (simp;done) | (simp;omega)))).mono ?_);rintro e w5 ⟨v5,rfl,hg5,hb5⟩;have hb5q:=Below.trans hb4q (Below.trans (a:=w4) (B:=W0.heap.size) (by repeat' first | exact Below.refl _ _ | assumption | refine Below.setCell ?_ ?_ _ | refine Below.alloc ?_ ?_ _ | refine below_drewN ?_ | refine Below.drew ?_ | (simp;done) | (simp;omega)) (Below.mono hb5 (by have:=hb4q.size;simp;omega)));obtain ⟨t5,p5,c5,rfl,ht5,hm5⟩:=hg5.opened;have j0:=cell_kept o0 hb5q;have j1:=cell_kept o1 hb5q;have j2:=frozen_kept o2 hb5q (by simp;omega);have j3:=frozen_kept o3 hb5q (by simp;omega)))
      all_goals go_wp2_with fail
      all_goals go_meet
      all_goals exact ⟨_,_,_,(hO.out.keep hb5q).set ht5 hm5,by rw [(zN8 k a b).1,HM.out],((hL.out.trans (hb5q.mono hL.out.size)).setCell (p:=⟨D + 1 + 1,0,none⟩) (by simp;omega) _).setCell (p:=⟨D + 1 + 1,1,none⟩) (by simp;omega) _⟩
    · have CS:=Lib.hid (fun W v (g : BigAt W v (b : Nat))=>by have:=refShift_any v b (by omega) (by rw [abs_up];omega) k hk W g;rwa [show (if (k : Int) <= (b : Int) then (k : Int) else (b : Int)) = ((min b k : Nat) : Int) by split <;> omega] at this)
      have CP:=Lib.hid (fun W=>refPower_any (min b k) (by omega) W)
      have C:=Lib.hid (fun W v1 v2 (g1 : BigAt W v1 (a : Nat)) (g2 : BigAt W v2 (2 ^ min b k))=>refOver_any v1 v2 a (2 ^ min b k) (by have:=two_pos (min b k);omega) (by rw [abs_up];omega) (by have:=two_lsz (j:=min b k) (by omega);omega) W g1 g2)
      obtain ⟨mn,hmn⟩ : ∃ m,min b k = m:=⟨_,rfl⟩
      have HM:=Lib.hid hmn
      rw [hmn] at CS CP C
      clear hi hzb sa sb h64 la lb hmn
      go_upto_region 24 with fail
      go_region_with (first
        | (go_at_call 131;(with_reducible refine (CS.out _ _ (HGB.out.keep (by repeat' first | exact Below.refl _ _ | assumption | refine Below.setCell ?_ ?_ _ | refine Below.alloc ?_ ?_ _ | refine below_drewN ?_ | refine Below.drew ?_ | (simp;done) | (simp;omega)))).mono ?_);rintro e w3 ⟨rfl,hb3⟩;have hb3q:=Below.trans (a:=W0) (B:=W0.heap.size) (by repeat' first | exact Below.refl _ _ | assumption | refine Below.setCell ?_ ?_ _ | refine Below.alloc ?_ ?_ _ | refine below_drewN ?_ | refine Below.drew ?_ | (simp;done) | (simp;omega)) (Below.mono hb3 (Below.size (B:=W0.heap.size) (w:=W0) (by repeat' first | exact Below.refl _ _ | assumption | refine Below.setCell ?_ ?_ _ | refine Below.alloc ?_ ?_ _ | refine below_drewN ?_ | refine Below.drew ?_ | (simp;done) | (simp;omega))));have k0:=cell_kept x0 hb3q;have k1:=cell_kept x1 hb3q)
        | (go_at_call 126;(with_reducible refine (CP.out _).mono ?_);rintro e w4 ⟨v4,rfl,hg4,hb4⟩;obtain ⟨t4,p4,k4,c4,rfl⟩:=hg4.shape;have hb4q:=Below.trans hb3q (Below.trans (a:=w3) (B:=W0.heap.size) (by repeat' first | exact Below.refl _ _ | assumption | refine Below.setCell ?_ ?_ _ | refine Below.alloc ?_ ?_ _ | refine below_drewN ?_ | refine Below.drew ?_ | (simp;done) | (simp;omega)) (Below.mono hb4 (by have:=hb3q.size;simp;omega)));have l0:=cell_kept x0 hb4q;have l1:=cell_kept x1 hb4q;have hga4:=HGA.out.keep hb4q)
        | (go_at_call 91;(with_reducible refine (C.out _ _ _ (hga4.keep (by repeat' first | exact Below.refl _ _ | assumption | refine Below.setCell ?_ ?_ _ | refine Below.alloc ?_ ?_ _ | refine below_drewN ?_ | refine Below.drew ?_ | (simp;done) | (simp;omega))) (hg4.keep (by repeat' first | exact Below.refl _ _ | assumption | refine Below.setCell ?_ ?_ _ | refine Below.alloc ?_ ?_ _ | refine below_drewN ?_ | refine Below.drew ?_ | (simp;done) | (simp;omega)))).mono ?_);rintro e w5 ⟨v5,r5,rfl,hg5,hgr5,hb5⟩;have hb5q:=Below.trans hb4q (Below.trans (a:=w4) (B:=W0.heap.size) (by repeat' first | exact Below.refl _ _ | assumption | refine Below.setCell ?_ ?_ _ | refine Below.alloc ?_ ?_ _ | refine below_drewN ?_ | refine Below.drew ?_ | (simp;done) | (simp;omega)) (Below.mono hb5 (by have:=hb4q.size;simp;omega)));obtain ⟨t5,p5,c5,rfl,ht5,hm5⟩:=hg5.opened;obtain ⟨t6,p6,k6,c6,rfl⟩:=hgr5.shape;have j0:=cell_kept o0 hb5q;have j1:=cell_kept o1 hb5q;have j2:=frozen_kept o2 hb5q (by simp;omega);have j3:=frozen_kept o3 hb5q (by simp;omega)))
      all_goals go_wp2_with fail
      all_goals go_meet
      all_goals exact ⟨_,_,_,(hO.out.keep hb5q).set ht5 hm5,by rw [(zN9 k a b).1,HM.out],((hL.out.trans (hb5q.mono hL.out.size)).setCell (p:=⟨D + 1 + 1,0,none⟩) (by simp;omega) _).setCell (p:=⟨D + 1 + 1,1,none⟩) (by simp;omega) _⟩
  case rest =>
  obtain ⟨z,t,s,hO2,hz,hl⟩:=hcut
  have habs:=opZ_abs i k a b HL.out.2.2.2 hk HL.out.1 HL.out.2.1
  rw [<- hz] at habs
  have HVz:=HV.out
  rw [<- HR.out,<- hz] at HVz
  have HV:=Lib.hid HVz
  have lz : Qd.lsz z.natAbs <= 10:=(Qd.lsz_le_iff 10 _).2 (by rw [show Qd.bb ^ 10 = 10 ^ 40 from rfl];exact habs)
  have CP:=Lib.hid (fun W=>refPower_any k hk W)
  have fr:=mod_two_fit z hk
  have CO:=Lib.hid (fun W v1 v2 (g1 : BigAt W v1 z) (g2 : BigAt W v2 (2 ^ k))=>refOver_any v1 v2 z (2 ^ k) (by have:=two_pos k;omega) (by omega) (by have:=two_lsz hk;omega) W g1 g2)
  have Cr:=Lib.hid (fun W v (g : BigAt W v (z % 2 ^ k))=>by have:=refResult_any v (z % 2 ^ k) (by have:=lsz_fit fr;omega) W g;rw [resI_fit fr] at this;exact this)
  obtain ⟨tr,htr⟩ : ∃ t,tz (z % 2 ^ k) = t:=⟨_,rfl⟩
  obtain ⟨q,hq⟩ : ∃ t,z / 2 ^ k = t:=⟨_,rfl⟩
  obtain ⟨r,hr⟩ : ∃ t,z % 2 ^ k = t:=⟨_,rfl⟩
  obtain ⟨P,hP⟩ : ∃ t : Int,2 ^ k = t:=⟨_,rfl⟩
  have HT:=Lib.hid htr
  rw [htr] at Cr
  rw [hq] at CO
  rw [hr] at Cr CO
  rw [hP] at CP CO
  obtain ⟨p3,c3,rfl,_,_⟩:=hO2.m.parts
  obtain ⟨n3,hn3⟩ : ∃ n,Qd.lsz z.natAbs = n:=⟨_,rfl⟩
  rw [hn3] at hO2
  have o0:=hO2.c0;have o1:=hO2.c1
  have hO:=Lib.hid hO2;have hL:=Lib.hid hl
  clear fr htr hq hr hP lz habs hz HVz hO2 hl hn3 HL HR hX hY N1 N2 hDs hDw x0 x1 y0 y1 o2 o3
  go_upto_region 25 with fail
  have hlt:=hO.out.lt
  have hlt2 : D + 1 + 1 < wc.heap.size + 1:=by omega
  have z0 : Below wc.heap.size wc wc:=Below.refl _ _
  go_cut [16] (fun s16 wx=>∃ d t s,s16 = .pointer (some ⟨d,0,none⟩)/\wx.cell? ⟨d,0,none⟩ = some (.bool t)/\wx.cell? ⟨d,1,none⟩ = some s/\BigAt wx (.agg #[.bool t,s]) r/\Below wc.heap.size wc wx)
  case first =>
    have ZZ:=mags_nil wc
    have N1:=Lib.hid ((Bk.new wc (z:=0) (t:=false) rfl (mags_nil wc)).keep (belD _))
    have N2a:=Lib.hid (((Bk.new wc (z:=0) (t:=false) rfl (mags_nil wc)).keep (belZ (wc.alloc (.cells #[.bool false,.slice none 0 0] 74)))).keep (belD _))
    have N2b:=Lib.hid ((bkZ2 wc).keep (belD _))
    have OA:=hO.out.keep (belZ wc)
    have OB:=OA.keep (belZ (wc.alloc (.cells #[.bool false,.slice none 0 0] 74)))
    have oA0:=OA.c0;have oA1:=OA.c1;have oB0:=OB.c0;have oB1:=OB.c1
    have en1 : ¬ D + 1 + 1 = wc.heap.size:=by omega
    have en2 : ¬ D + 1 + 1 = wc.heap.size + 1:=by omega
    have fn1 : ¬ wc.heap.size = D + 1 + 1:=by omega
    have fn2 : ¬ wc.heap.size + 1 = D + 1 + 1:=by omega
    have gn1 : ¬ wc.heap.size = D + 1:=by omega
    have gn2 : ¬ D + 1 = wc.heap.size:=by omega
    clear OA OB
    go_region_held3 (fun w'=>w'.cell? ⟨D + 1 + 1,0,none⟩ = some (.bool t)/\w'.cell? ⟨D + 1 + 1,1,none⟩ = some (.slice p3 n3 c3)) (first | with_reducible exact ⟨o0,o1⟩ | with_reducible exact ⟨oA0,oA1⟩ | with_reducible exact ⟨oB0,oB1⟩ | with_reducible exact ⟨j0,j1⟩ | with_reducible exact ⟨l0,l1⟩ | go_keep)
     (first
      | (go_at_call 126;(with_reducible refine (CP.out _).mono ?_);rintro e w3 ⟨v3,rfl,hg3,hb3⟩;obtain ⟨b4,p4,k4,c4,rfl⟩:=hg3.shape;have hb3q : Below wc.heap.size wc w3:=Below.trans (B:=wc.heap.size) (by repeat' first | exact Below.refl _ _ | assumption | refine Below.setCell ?_ ?_ _ | refine Below.alloc ?_ ?_ _ | refine below_drewN ?_ | refine Below.drew ?_ | (simp;done) | (simp;omega)) (Below.mono hb3 (by first | (simp;done) | (simp;omega)));have hs3:=hb3q.size;have hlt3 : D + 1 + 1 < w3.heap.size:=(by omega);have hlt4 : D + 1 + 1 < w3.heap.size + 1:=(by omega);have en3 : ¬ D + 1 + 1 = w3.heap.size:=(by omega);have en4 : ¬ D + 1 + 1 = w3.heap.size + 1:=(by omega);have fn3 : ¬ w3.heap.size = D + 1 + 1:=(by omega);have fn4 : ¬ w3.heap.size + 1 = D + 1 + 1:=(by omega);have gn3 : ¬ w3.heap.size = D + 1:=(by omega);have gn4 : ¬ D + 1 = w3.heap.size:=(by omega);have j0:=cell_kept o0 hb3q;have j1:=cell_kept o1 hb3q;(first | (have Q1:=Lib.hid (N2a.out.keep hb3);have Q2:=Lib.hid (N2b.out.keep hb3);have q20:=Q2.out.c0;have q21:=Q2.out.c1;have q22:=Q2.out.f0;have q23:=Q2.out.f1;have q24:=Q2.out.lt) | (have Q1:=Lib.hid (N1.out.keep hb3)) | skip);(try (have q10:=Q1.out.c0;have q11:=Q1.out.c1;have q12:=Q1.out.f0;have q13:=Q1.out.f1;have q14:=Q1.out.lt));have M1:=Lib.hid (Bk.new w3 (z:=0) (t:=false) rfl (mags_nil w3));have M2a:=Lib.hid (M1.out.keep (belZ (w3.alloc (.cells #[.bool false,.slice none 0 0] 74))));have M2b:=Lib.hid (bkZ2 w3);(try have Q1z:=Lib.hid (Q1.out.keep (belZ w3))))
      | (go_at_call 91;(with_reducible refine (CO.out _ _ _ (hO.out.big.keep (by repeat' first | exact Below.refl _ _ | assumption | refine Below.setCell ?_ ?_ _ | refine Below.alloc ?_ ?_ _ | refine below_drewN ?_ | refine Below.drew ?_ | (simp;done) | (simp;omega))) (hg3.keep (by repeat' first | exact Below.refl _ _ | assumption | refine Below.setCell ?_ ?_ _ | refine Below.alloc ?_ ?_ _ | refine below_drewN ?_ | refine Below.drew ?_ | (simp;done) | (simp;omega)))).mono ?_);rintro e w5 ⟨vq,vr,rfl,hgq,hgr,hb5⟩;obtain ⟨b5,p5,k5,c5,rfl⟩:=hgq.shape;obtain ⟨b6,p6,k6,c6,rfl⟩:=hgr.shape;have hb5q : Below wc.heap.size wc w5:=hb3q.trans (Below.trans (a:=w3) (B:=wc.heap.size) (by repeat' first | exact Below.refl _ _ | assumption | refine Below.setCell ?_ ?_ _ | refine Below.alloc ?_ ?_ _ | refine below_drewN ?_ | refine Below.drew ?_ | (simp;done) | (simp;omega)) (Below.mono hb5 (by have:=hb3q.size;simp;omega)));have hs5:=hb5q.size;have en5 : ¬ D + 1 + 1 = w5.heap.size:=(by omega);have en6 : ¬ D + 1 + 1 = w5.heap.size + 1:=(by omega);have fn5 : ¬ w5.heap.size = D + 1 + 1:=(by omega);have fn6 : ¬ w5.heap.size + 1 = D + 1 + 1:=(by omega);have gn5 : ¬ w5.heap.size = D + 1:=(by omega);have gn6 : ¬ D + 1 = w5.heap.size:=(by omega);have en7 : D + 1 + 1 < w5.heap.size:=(by omega);have en8 : D + 1 + 1 < w5.heap.size + 1:=(by omega);have l0:=cell_kept o0 hb5q;have l1:=cell_kept o1 hb5q;obtain ⟨e50,e51,e52,e53⟩:=underZ w5;(first | (have S1:=Lib.hid (M2a.out.keep hb5);have S2:=Lib.hid (M2b.out.keep hb5)) | (have S1:=Lib.hid (Q1z.out.keep hb5);have S2:=Lib.hid (M1.out.keep hb5)) | (have S1:=Lib.hid (M1.out.keep hb5)) | (have S1:=Lib.hid (Q1.out.keep hb5);have S2:=Lib.hid (Q2.out.keep hb5)) | (have S1:=Lib.hid (Q1.out.keep hb5)) | skip);(try (have s10:=S1.out.c0;have s11:=S1.out.c1;have s12:=S1.out.f0;have s13:=S1.out.f1;have s14:=S1.out.lt));(try (have s20:=S2.out.c0;have s21:=S2.out.c1;have s22:=S2.out.f0;have s23:=S2.out.f1;have s24:=S2.out.lt))))
    all_goals (go_wp2_with fail;go_meet)
    all_goals (refine ⟨_,b6,.slice p6 k6 c6,rfl,?_,?_,?_,?_⟩ <;> first | (go_simp;done) | ((repeat' first | exact hgr | refine BigAt.set2 (x:=false) ?_ ?_ _ _ | refine BigAt.keep ?_ ((Below.refl _ _).alloc (Nat.le_refl _) _) | (go_simp;done));done) | (exact (by repeat' first | exact Below.refl _ _ | assumption | refine Below.setCell ?_ ?_ _ | refine Below.alloc ?_ ?_ _ | refine below_drewN ?_ | refine Below.drew ?_ | (simp;done) | (simp;omega))))
  case rest =>
  obtain ⟨d,t6,s6,rfl,k0,k1,hgr,hlr⟩:=hcut
  obtain ⟨p6,c6,rfl,_⟩:=hgr.slice
  have HGR:=Lib.hid hgr
  have HLR:=Lib.hid hlr
  clear hgr hlr z0 hlt hlt2 o0 o1
  go_wp2_with (go_at_call 75;(with_reducible refine (Cr.out _ _ HGR.out).mono ?_);rintro e w7 ⟨rfl,hb7⟩)
  go_ret2
  exact ⟨by rw [<- HV.out,HT.out];rfl,(hL.out.trans (HLR.out.mono hL.out.size)).trans (hb7.mono (hL.out.trans (HLR.out.mono hL.out.size)).size)⟩
end Go.Proofs.YtpbegoflpfdajaaGreatDoor

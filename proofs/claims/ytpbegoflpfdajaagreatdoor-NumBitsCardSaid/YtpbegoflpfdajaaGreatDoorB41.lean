/- WHAT IS PROVED: contracts of functions of the numbers package and laws for them, used by the last text of this claim. CONDITIONS: stated at each theorem. -/
import Derived.Test.YtpbegoflpfdajaaGreatDoorB40
import Derived.Deep.RegionWith
namespace Go.Proofs.YtpbegoflpfdajaaGreatDoor
section
open Go.RowKit
open Qd (lims)
set_option maxHeartbeats 4000000 in
set_option maxRecDepth 100000 in
theorem refOverM_any (s t : Value) (m n : Nat) (hn : 0 < n) (h1 : Qd.lsz m <= 5000) (h2 : Qd.lsz n <= 5000) (w : World) (hs : Mags w s m) (ht : Mags w t n) :
    Calls Tryz.prog 158 #[s,t] w fun e w'=>∃ v u,e = .returned (.tuple #[v,u])/\Mags w' v (m / n)/\Mags w' u (m % n)/\Below w.heap.size w w':=by
  have hT:=Lib.hid ht
  obtain ⟨p,c1,rfl,_,hx⟩:=hs.parts
  obtain ⟨q,d1,rfl,_,_⟩:=ht.parts
  have Hn:=Lib.hid hn
  have HB:=Lib.hid (fun i=>rq_lt m n i hn)
  have HM:=Lib.hid (fun i=>rq_mod m n i)
  have HD:=Lib.hid (fun i=>rq_div m n i hn)
  have hmtop:=Qd.lsz_lt m
  have Hz2:=Lib.hid h2
  obtain ⟨a,ha⟩ : ∃ a,Qd.lsz m = a:=⟨_,rfl⟩
  obtain ⟨b,hb⟩ : ∃ b,Qd.lsz n = b:=⟨_,rfl⟩
  rw [ha] at h1 hx hmtop ⊢
  rw [hb] at h2 ⊢
  have Hx:=Lib.hid hx
  have Htop:=Lib.hid hmtop
  rw [hb] at hT
  clear hs ht ha hx hn hmtop
  have hws:=made_ws w a w.heap.size rfl
  have hbw : Below w.heap.size w (w.alloc (.cells (madeCells #[.int .i64 0] a) 3)):=(by repeat' first | exact Below.refl _ _ | assumption | refine Below.setCell ?_ ?_ _ | refine Below.alloc ?_ ?_ _ | refine below_drewN ?_ | refine Below.drew ?_ | (simp;done) | (simp;omega))
  have hsz : (w.alloc (.cells (madeCells #[.int .i64 0] a) 3)).heap.size = w.heap.size + 1:=by simp
  go_enter Tryz.func158,Tryz.ntmps158
  go_wp2_with (with_reducible refine mk72 w.heap.size a _ ⟨rfl,_,_,rfl,rfl,rfl⟩ rfl rfl (by omega) ?_)
  generalize w.alloc (Obj.cells (madeCells #[.int .i64 0] a) 3) = W1 at *
  have Hws:=Lib.hid hws;have Hbw:=Lib.hid hbw
  clear hws hbw
  go_loopw [7,8] (fun v vi wr=>∃ i : Nat,∃ t : Int,i <= a/\vi = .int .i64 t/\t = (i : Int) - 1/\Mags wr v (m / Qd.bb ^ i % n)/\Ws (m / n) 0 i a w.heap.size wr/\Below w.heap.size w wr/\w.heap.size < wr.heap.size) (fun _ vi _=>(intOf vi + 1).toNat)
  case atStart =>
    refine ⟨a,_,Nat.le_refl _,rfl,rfl,?_,Hws.out.same fun j hj=>?_,Hbw.out,by omega⟩
    · rw [Nat.div_eq_of_lt Htop.out,Nat.zero_mod]
      exact ⟨none,0,by rw [Qd.lims_length,Qd.lsz_zero],by rw [Qd.lims_length,Qd.lsz_zero];omega,fun h=>absurd (by rw [Qd.lsz_zero];rfl) h⟩
    · rw [if_neg (by omega),if_pos (by omega)]
  case round =>
    obtain ⟨i1,t,hi1,rfl,ht,hm,hw,hbl,hlt0⟩:=hrel
    have HW:=Lib.hid hw;have HBL:=Lib.hid hbl
    clear hw hbl
    obtain ⟨pr,cr,rfl,_,_⟩:=hm.parts
    by_cases h0 : i1 = 0
    · subst h0
      have d0 : decide ((0 : Int) <= t) = false:=by simp;omega
      have hmg:=HW.out.mg (c:=a) hlt0 (Nat.le_refl _)
      have hqt : m / n < Qd.bb ^ a:=Nat.lt_of_le_of_lt (Nat.div_le_self m n) Htop.out
      have CT:=Lib.hid (refTrim_at false (some ⟨w.heap.size,0,none⟩) a (m / n) a (by omega) hqt wr hmg)
      have e0 : m / Qd.bb ^ 0 % n = m % n:=by rw [Nat.pow_zero,Nat.div_one]
      rw [e0] at hm ⊢
      have hm1:=hm
      have HM1:=Lib.hid hm1
      clear hm hm1 hmg hqt ht e0
      go_wp2_with (first
        | (with_reducible refine fd74 _ _ _ _ ⟨rfl,_,rfl,rfl⟩ ?_)
        | (go_at_call 144;(with_reducible refine (CT.out).mono ?_);rintro e w4 ⟨rfl,hm4,hb4⟩;have hl4:=HBL.out.trans (hb4.mono HBL.out.size)))
      go_ret2
      exact ⟨_,_,rfl,hm4,HM1.out.keep hb4,hl4⟩
    · obtain ⟨i,rfl⟩ : ∃ i,i1 = i + 1:=⟨i1 - 1,by omega⟩
      have ht2 : t = (i : Int):=by omega
      clear ht h0
      subst ht2
      obtain ⟨ga,rfl,_,hxs⟩:=Hx.out (by omega)
      have hca:=cell_keep (hxs i (by omega)) HBL.out
      have hR1:=HB.out i
      have hR2:=HM.out i
      have hR3:=HD.out i
      have hx4:=Qd.lim_lt m i
      have hrn:=Nat.mod_lt (m / Qd.bb ^ (i + 1)) Hn.out
      obtain ⟨x,hx0⟩ : ∃ x,Qd.lim m i = x:=⟨_,rfl⟩
      obtain ⟨r,hr0⟩ : ∃ r,m / Qd.bb ^ (i + 1) % n = r:=⟨_,rfl⟩
      rw [hx0] at hca hx4
      rw [hx0,hr0] at hR1 hR2 hR3
      rw [hr0] at hm hrn ⊢
      have hlr : Qd.lsz r <= 5000:=Nat.le_trans (Qd.lsz_mono (Nat.le_of_lt hrn)) Hz2.out
      obtain ⟨R,hR⟩ : ∃ R,r * Qd.bb + x = R:=⟨_,rfl⟩
      rw [hR] at hR1 hR2 hR3
      have hlR : Qd.lsz R <= 5001:=Nat.le_trans (lsz_step hR1) (by have:=Hz2.out;omega)
      have CTr:=Lib.hid (fun W p c (g : Mg W (.slice p (Qd.lsz r + 1) c) (lims R (Qd.lsz r + 1)))=>refTrim_at false p c R (Qd.lsz r + 1) (by omega) (by
        have h5:=Qd.lsz_lt r
        rw [<- hR,Nat.pow_succ]
        have h6 : (r + 1) * Qd.bb <= Qd.bb ^ Qd.lsz r * Qd.bb:=Nat.mul_le_mul_right _ h5
        rw [Nat.add_mul] at h6
        omega) W g)
      have CMg:=Lib.hid (fun W v (hb : Below w.heap.size w W) (g : Mags W v R)=>refMag_any v _ R n (by omega) (Nat.le_trans Hz2.out (by decide)) W g (hT.out.keep hb))
      have hcz:=cmpN_lt R n
      obtain ⟨cz,hcz0⟩ : ∃ z,cmpN R n = z:=⟨_,rfl⟩
      rw [hcz0] at CMg hcz
      have HRx:=Lib.hid hR
      have hm2:=Lib.hid hm
      clear hx0 hr0 hm hR hcz0
      have d0 : decide ((0 : Int) <= (i : Int)) = true:=by simp
      by_cases hRn : R < n
      · rw [decide_eq_true hRn] at hcz
        go_wp2_with (first
          | (with_reducible refine fd74 _ _ _ _ ⟨rfl,_,rfl,rfl⟩ ?_)
          | (at_builtin;refine wpList_app_rest rfl _ _ rfl rfl wr x r (Qd.lsz r) hx4 (by omega) _ _ rfl rfl (by rfl) (by exact hm2.out) ?_;intro g3 c3 w3 hm3 hg3 hb3;rw [HRx.out] at hm3;have hl3:=Below.trans HBL.out (Below.mono hb3 (Below.size HBL.out));have hW3:=HW.out.keep hb3 hlt0;have hs3:=hb3.size;clear hb3)
          | (go_at_call 144;(with_reducible refine (CTr.out _ _ _ hm3).mono ?_);rintro e w4 ⟨rfl,hm4,hb4⟩;have hl4:=Below.trans hl3 (Below.mono hb4 (Below.size hl3));have hW4:=hW3.keep hb4 (by omega);have hs4:=hb4.size;clear hb4)
          | (go_at_call 149;(with_reducible refine (CMg.out _ _ hl4 hm4).mono ?_);rintro e w5 ⟨rfl,hb5⟩;have hl5:=Below.trans hl4 (Below.mono hb5 (Below.size hl4));have hW5:=hW4.keep hb5 (by omega);have hm5:=hm4.keep hb5;have hs5:=hb5.size;clear hb5))
        obtain ⟨W5,hW5e⟩ : ∃ W,W = w5:=⟨_,rfl⟩
        subst hW5e
        have HL5:=Lib.hid hl5;have HWS:=Lib.hid hW5;have HM5:=Lib.hid hm5
        have hlt5 : w.heap.size < W5.heap.size:=by omega
        clear hl5 hW5 hm5 hl4 hl3 hm3 hm4 hW3 hW4 hm2 CTr CMg
        go_loopw [9,10] (fun vl vh w6=>∃ lo hi : Nat,vl = .int .i64 lo/\vh = .int .i64 hi/\lo <= hi/\hi <= 9999/\n * lo <= R/\R < n * (hi + 1)/\Below W5.heap.size W5 w6) (fun vl vh _=>(intOf vh).toNat - (intOf vl).toNat)
        case atStart=>exact ⟨0,0,rfl,rfl,by omega,by omega,by omega,by (rw [Nat.zero_add,Nat.mul_one];exact hRn),Below.refl _ _⟩
        case round =>
          obtain ⟨lo,hi,rfl,rfl,hlh,hh9,hlo,hhi,hb6⟩:=hrel
          have HLO:=Lib.hid hlo;have HHI:=Lib.hid hhi;have HB6:=Lib.hid hb6
          have hs6:=hb6.size
          have HL6:=Lib.hid (HL5.out.trans (hb6.mono HL5.out.size))
          have HM6:=Lib.hid (HM5.out.keep hb6)
          clear hlo hhi hb6
          by_cases hlt : lo < hi
          · obtain ⟨mid,hmid⟩ : ∃ x,(lo + hi + 1) / 2 = x:=⟨_,rfl⟩
            have hq : ((lo : Int) + (hi : Int) + 1) / 2 = (mid : Int):=by omega
            have hm1 : lo < mid:=by omega
            have hm9 : mid <= hi:=by omega
            have d2 : decide ((lo : Int) < (hi : Int)) = true:=by simp;omega
            clear hmid
            have CB:=Lib.hid (refByLimb_any (.slice q b d1) n mid (by have:=Hz2.out;omega) (by omega) (by omega) wr (hT.out.keep HL6.out))
            have hlp : Qd.lsz (n * mid) <= 5001:=Nat.le_trans (lsz_step (Nat.mul_lt_mul_of_pos_left (show mid < Qd.bb by show mid < 10000;omega) Hn.out)) (by have:=Hz2.out;omega)
            have CT2:=Lib.hid (fun W v (g : Mags W v (n * mid))=>refTrim_any false v (n * mid) _ (by omega) (Qd.lsz_lt _) W g)
            have CM2:=Lib.hid (fun W v (hb : Below wr.heap.size wr W) (g : Mags W v (n * mid))=>refMag_any v _ (n * mid) R (by omega) (by omega) W g (HM6.out.keep hb))
            have hcz2:=cmpN_le (n * mid) R
            obtain ⟨cy,hcy0⟩ : ∃ z,cmpN (n * mid) R = z:=⟨_,rfl⟩
            rw [hcy0] at CM2 hcz2
            obtain ⟨P,hP⟩ : ∃ P,n * mid = P:=⟨_,rfl⟩
            rw [hP] at CB CT2 CM2 hcz2
            have HP:=Lib.hid hP
            clear hP hcy0 hlp
            by_cases hPR : P <= R
            · rw [decide_eq_true hPR] at hcz2
              go_wp2_with (first
                | (with_reducible refine fd74 _ _ _ _ ⟨rfl,_,rfl,rfl⟩ ?_)
                | (go_at_call 199;(with_reducible refine (CB.out).mono ?_);rintro e w7 ⟨v7,rfl,hm7,hb7⟩;obtain ⟨p7,c7,rfl,_,_⟩:=hm7.parts)
                | (go_at_call 144;(with_reducible refine (CT2.out _ _ hm7).mono ?_);rintro e w8 ⟨v8,rfl,hm8,hb8⟩;obtain ⟨p8,c8,rfl,_,_⟩:=hm8.parts;have hl8:=hb7.trans (hb8.mono hb7.size))
                | (go_at_call 149;(with_reducible refine (CM2.out _ _ hl8 hm8).mono ?_);rintro e w9 ⟨rfl,hb9⟩;have hl9:=hl8.trans (hb9.mono hl8.size)))
              go_roundw
              case rel=>exact ⟨mid,hi,by first | rfl | go_num,rfl,hm9,hh9,by rw [HP.out];exact hPR,HHI.out,HB6.out.trans (hl9.mono HB6.out.size)⟩
              case measure=>simp [intOf];omega
            · rw [decide_eq_false hPR] at hcz2
              go_wp2_with (first
                | (with_reducible refine fd74 _ _ _ _ ⟨rfl,_,rfl,rfl⟩ ?_)
                | (go_at_call 199;(with_reducible refine (CB.out).mono ?_);rintro e w7 ⟨v7,rfl,hm7,hb7⟩;obtain ⟨p7,c7,rfl,_,_⟩:=hm7.parts)
                | (go_at_call 144;(with_reducible refine (CT2.out _ _ hm7).mono ?_);rintro e w8 ⟨v8,rfl,hm8,hb8⟩;obtain ⟨p8,c8,rfl,_,_⟩:=hm8.parts;have hl8:=hb7.trans (hb8.mono hb7.size))
                | (go_at_call 149;(with_reducible refine (CM2.out _ _ hl8 hm8).mono ?_);rintro e w9 ⟨rfl,hb9⟩;have hl9:=hl8.trans (hb9.mono hl8.size)))
              go_roundw
              case rel=>exact ⟨lo,mid - 1,rfl,by go_num,by omega,by omega,HLO.out,by rw [show mid - 1 + 1 = mid by omega,HP.out];omega,HB6.out.trans (hl9.mono HB6.out.size)⟩
              case measure=>simp [intOf];omega
          · have hlh2 : hi = lo:=by omega
            subst hlh2
            have d2 : decide ((hi : Int) < (hi : Int)) = false:=by simp
            have hqd : R / n = hi:=Nat.div_eq_of_lt_le (by rw [Nat.mul_comm];exact HLO.out) (by rw [Nat.mul_comm];exact HHI.out)
            have hrm : R - n * hi = R % n:=by rw [<- hqd];have:=Nat.div_add_mod R n;omega
            have hia : i < a:=by omega
            have hW6:=HWS.out.keep HB6.out hlt5
            have hc6:=(hW6 i hia).1
            have hf6:=(hW6 i hia).2
            have hs6:=HB6.out.size
            have hdig : (hi : Int) = (Qd.lim (m / n) i : Nat):=by rw [<- hR3,hqd]
            have hne : g3 ≠ w.heap.size:=by omega
            have hmS:=HM6.out.set_ne hne i (.int .i64 (hi : Int))
            have hWS:=hW6.down hdig
            have hBS : Below w.heap.size w (wr.setCell ⟨w.heap.size,i,none⟩ (.int .i64 (hi : Int))):=HL6.out.setCell (Nat.le_refl _) _
            have hsS : (wr.setCell ⟨w.heap.size,i,none⟩ (.int .i64 (hi : Int))).heap.size = wr.heap.size:=by simp
            have HMS:=Lib.hid hmS;have HWSS:=Lib.hid hWS;have HBS:=Lib.hid hBS
            clear hW6 hmS hWS hBS hdig
            by_cases hz : hi = 0
            · have d3 : decide ((0 : Int) < (hi : Int)) = false:=by simp;omega
              have d3' : decide (0 < hi) = false:=by simp;omega
              have hrr : R = m / Qd.bb ^ i % n:=by rw [<- hR2,<- hrm,hz];omega
              have HRR:=Lib.hid hrr
              clear hrr hrm hqd hz
              go_wp2
              go_roundw
              case rel=>exact ⟨i,(i : Int) - 1,by omega,by first | rfl | go_num,rfl,by rw [<- HRR.out];exact HMS.out,HWSS.out,HBS.out,by simp;omega⟩
              case measure=>simp [intOf]
            · have d3 : decide ((0 : Int) < (hi : Int)) = true:=by simp;omega
              have d3' : decide (0 < hi) = true:=by simp;omega
              have CB3:=Lib.hid (refByLimb_any (.slice q b d1) n hi (by have:=Hz2.out;omega) (by omega) (by omega) (wr.setCell ⟨w.heap.size,i,none⟩ (.int .i64 (hi : Int))) (hT.out.keep HBS.out))
              have CM3:=Lib.hid (fun W v (g1 : Mags W (.slice (some ⟨g3,0,none⟩) (Qd.lsz R) c3) R) (g2 : Mags W v (n * hi))=>refMinusM_any _ v R (n * hi) HLO.out (by omega) W g1 g2)
              rw [hrm,hR2] at CM3
              clear hrm hqd hz
              go_wp2_with (first
                | (go_at_call 199;(with_reducible refine (CB3.out).mono ?_);rintro e w7 ⟨v7,rfl,hm7,hb7⟩;obtain ⟨p7,c7,rfl,_,_⟩:=hm7.parts;have hr7:=HMS.out.keep hb7;have hW7:=HWSS.out.keep hb7 (by omega);have hl7:=HBS.out.trans (hb7.mono HBS.out.size);have hs7:=hb7.size)
                | (go_at_call 150;refine (CM3.out _ _ hr7 hm7).mono ?_;rintro e w8 ⟨v8,rfl,hm8,hb8⟩;obtain ⟨p8,c8,rfl,_,_⟩:=hm8.parts;have hW8:=hW7.keep hb8 (by omega);have hl8:=hl7.trans (hb8.mono hl7.size);have hs8:=hb8.size))
              go_roundw
              case rel=>exact ⟨i,(i : Int) - 1,by omega,by first | rfl | go_num,rfl,hm8,hW8,hl8,by omega⟩
              case measure=>simp [intOf]
      · rw [decide_eq_false hRn] at hcz
        go_wp2_with (first
          | (with_reducible refine fd74 _ _ _ _ ⟨rfl,_,rfl,rfl⟩ ?_)
          | (at_builtin;refine wpList_app_rest rfl _ _ rfl rfl wr x r (Qd.lsz r) hx4 (by omega) _ _ rfl rfl (by rfl) (by exact hm2.out) ?_;intro g3 c3 w3 hm3 hg3 hb3;rw [HRx.out] at hm3;have hl3:=Below.trans HBL.out (Below.mono hb3 (Below.size HBL.out));have hW3:=HW.out.keep hb3 hlt0;have hs3:=hb3.size;clear hb3)
          | (go_at_call 144;(with_reducible refine (CTr.out _ _ _ hm3).mono ?_);rintro e w4 ⟨rfl,hm4,hb4⟩;have hl4:=Below.trans hl3 (Below.mono hb4 (Below.size hl3));have hW4:=hW3.keep hb4 (by omega);have hs4:=hb4.size;clear hb4)
          | (go_at_call 149;(with_reducible refine (CMg.out _ _ hl4 hm4).mono ?_);rintro e w5 ⟨rfl,hb5⟩;have hl5:=Below.trans hl4 (Below.mono hb5 (Below.size hl4));have hW5:=hW4.keep hb5 (by omega);have hm5:=hm4.keep hb5;have hs5:=hb5.size;clear hb5))
        obtain ⟨W5,hW5e⟩ : ∃ W,W = w5:=⟨_,rfl⟩
        subst hW5e
        have HL5:=Lib.hid hl5;have HWS:=Lib.hid hW5;have HM5:=Lib.hid hm5
        have hlt5 : w.heap.size < W5.heap.size:=by omega
        clear hl5 hW5 hm5 hl4 hl3 hm3 hm4 hW3 hW4 hm2 CTr CMg
        go_loopw [9,10] (fun vl vh w6=>∃ lo hi : Nat,vl = .int .i64 lo/\vh = .int .i64 hi/\lo <= hi/\hi <= 9999/\n * lo <= R/\R < n * (hi + 1)/\Below W5.heap.size W5 w6) (fun vl vh _=>(intOf vh).toNat - (intOf vl).toNat)
        case atStart=>exact ⟨0,9999,rfl,rfl,by omega,by omega,by omega,by exact hR1,Below.refl _ _⟩
        case round =>
          obtain ⟨lo,hi,rfl,rfl,hlh,hh9,hlo,hhi,hb6⟩:=hrel
          have HLO:=Lib.hid hlo;have HHI:=Lib.hid hhi;have HB6:=Lib.hid hb6
          have hs6:=hb6.size
          have HL6:=Lib.hid (HL5.out.trans (hb6.mono HL5.out.size))
          have HM6:=Lib.hid (HM5.out.keep hb6)
          clear hlo hhi hb6
          by_cases hlt : lo < hi
          · obtain ⟨mid,hmid⟩ : ∃ x,(lo + hi + 1) / 2 = x:=⟨_,rfl⟩
            have hq : ((lo : Int) + (hi : Int) + 1) / 2 = (mid : Int):=by omega
            have hm1 : lo < mid:=by omega
            have hm9 : mid <= hi:=by omega
            have d2 : decide ((lo : Int) < (hi : Int)) = true:=by simp;omega
            clear hmid
            have CB:=Lib.hid (refByLimb_any (.slice q b d1) n mid (by have:=Hz2.out;omega) (by omega) (by omega) wr (hT.out.keep HL6.out))
            have hlp : Qd.lsz (n * mid) <= 5001:=Nat.le_trans (lsz_step (Nat.mul_lt_mul_of_pos_left (show mid < Qd.bb by show mid < 10000;omega) Hn.out)) (by have:=Hz2.out;omega)
            have CT2:=Lib.hid (fun W v (g : Mags W v (n * mid))=>refTrim_any false v (n * mid) _ (by omega) (Qd.lsz_lt _) W g)
            have CM2:=Lib.hid (fun W v (hb : Below wr.heap.size wr W) (g : Mags W v (n * mid))=>refMag_any v _ (n * mid) R (by omega) (by omega) W g (HM6.out.keep hb))
            have hcz2:=cmpN_le (n * mid) R
            obtain ⟨cy,hcy0⟩ : ∃ z,cmpN (n * mid) R = z:=⟨_,rfl⟩
            rw [hcy0] at CM2 hcz2
            obtain ⟨P,hP⟩ : ∃ P,n * mid = P:=⟨_,rfl⟩
            rw [hP] at CB CT2 CM2 hcz2
            have HP:=Lib.hid hP
            clear hP hcy0 hlp
            by_cases hPR : P <= R
            · rw [decide_eq_true hPR] at hcz2
              go_wp2_with (first
                | (with_reducible refine fd74 _ _ _ _ ⟨rfl,_,rfl,rfl⟩ ?_)
                | (go_at_call 199;(with_reducible refine (CB.out).mono ?_);rintro e w7 ⟨v7,rfl,hm7,hb7⟩;obtain ⟨p7,c7,rfl,_,_⟩:=hm7.parts)
                | (go_at_call 144;(with_reducible refine (CT2.out _ _ hm7).mono ?_);rintro e w8 ⟨v8,rfl,hm8,hb8⟩;obtain ⟨p8,c8,rfl,_,_⟩:=hm8.parts;have hl8:=hb7.trans (hb8.mono hb7.size))
                | (go_at_call 149;(with_reducible refine (CM2.out _ _ hl8 hm8).mono ?_);rintro e w9 ⟨rfl,hb9⟩;have hl9:=hl8.trans (hb9.mono hl8.size)))
              go_roundw
              case rel=>exact ⟨mid,hi,by first | rfl | go_num,rfl,hm9,hh9,by rw [HP.out];exact hPR,HHI.out,HB6.out.trans (hl9.mono HB6.out.size)⟩
              case measure=>simp [intOf];omega
            · rw [decide_eq_false hPR] at hcz2
              go_wp2_with (first
                | (with_reducible refine fd74 _ _ _ _ ⟨rfl,_,rfl,rfl⟩ ?_)
                | (go_at_call 199;(with_reducible refine (CB.out).mono ?_);rintro e w7 ⟨v7,rfl,hm7,hb7⟩;obtain ⟨p7,c7,rfl,_,_⟩:=hm7.parts)
                | (go_at_call 144;(with_reducible refine (CT2.out _ _ hm7).mono ?_);rintro e w8 ⟨v8,rfl,hm8,hb8⟩;obtain ⟨p8,c8,rfl,_,_⟩:=hm8.parts;have hl8:=hb7.trans (hb8.mono hb7.size))
                | (go_at_call 149;(with_reducible refine (CM2.out _ _ hl8 hm8).mono ?_);rintro e w9 ⟨rfl,hb9⟩;have hl9:=hl8.trans (hb9.mono hl8.size)))
              go_roundw
              case rel=>exact ⟨lo,mid - 1,rfl,by go_num,by omega,by omega,HLO.out,by rw [show mid - 1 + 1 = mid by omega,HP.out];omega,HB6.out.trans (hl9.mono HB6.out.size)⟩
              case measure=>simp [intOf];omega
          · have hlh2 : hi = lo:=by omega
            subst hlh2
            have d2 : decide ((hi : Int) < (hi : Int)) = false:=by simp
            have hqd : R / n = hi:=Nat.div_eq_of_lt_le (by rw [Nat.mul_comm];exact HLO.out) (by rw [Nat.mul_comm];exact HHI.out)
            have hrm : R - n * hi = R % n:=by rw [<- hqd];have:=Nat.div_add_mod R n;omega
            have hia : i < a:=by omega
            have hW6:=HWS.out.keep HB6.out hlt5
            have hc6:=(hW6 i hia).1
            have hf6:=(hW6 i hia).2
            have hs6:=HB6.out.size
            have hdig : (hi : Int) = (Qd.lim (m / n) i : Nat):=by rw [<- hR3,hqd]
            have hne : g3 ≠ w.heap.size:=by omega
            have hmS:=HM6.out.set_ne hne i (.int .i64 (hi : Int))
            have hWS:=hW6.down hdig
            have hBS : Below w.heap.size w (wr.setCell ⟨w.heap.size,i,none⟩ (.int .i64 (hi : Int))):=HL6.out.setCell (Nat.le_refl _) _
            have hsS : (wr.setCell ⟨w.heap.size,i,none⟩ (.int .i64 (hi : Int))).heap.size = wr.heap.size:=by simp
            have HMS:=Lib.hid hmS;have HWSS:=Lib.hid hWS;have HBS:=Lib.hid hBS
            clear hW6 hmS hWS hBS hdig
            by_cases hz : hi = 0
            · have d3 : decide ((0 : Int) < (hi : Int)) = false:=by simp;omega
              have d3' : decide (0 < hi) = false:=by simp;omega
              have hrr : R = m / Qd.bb ^ i % n:=by rw [<- hR2,<- hrm,hz];omega
              have HRR:=Lib.hid hrr
              clear hrr hrm hqd hz
              go_wp2
              go_roundw
              case rel=>exact ⟨i,(i : Int) - 1,by omega,by first | rfl | go_num,rfl,by rw [<- HRR.out];exact HMS.out,HWSS.out,HBS.out,by simp;omega⟩
              case measure=>simp [intOf]
            · have d3 : decide ((0 : Int) < (hi : Int)) = true:=by simp;omega
              have d3' : decide (0 < hi) = true:=by simp;omega
              have CB3:=Lib.hid (refByLimb_any (.slice q b d1) n hi (by have:=Hz2.out;omega) (by omega) (by omega) (wr.setCell ⟨w.heap.size,i,none⟩ (.int .i64 (hi : Int))) (hT.out.keep HBS.out))
              have CM3:=Lib.hid (fun W v (g1 : Mags W (.slice (some ⟨g3,0,none⟩) (Qd.lsz R) c3) R) (g2 : Mags W v (n * hi))=>refMinusM_any _ v R (n * hi) HLO.out (by omega) W g1 g2)
              rw [hrm,hR2] at CM3
              clear hrm hqd hz
              go_wp2_with (first
                | (go_at_call 199;(with_reducible refine (CB3.out).mono ?_);rintro e w7 ⟨v7,rfl,hm7,hb7⟩;obtain ⟨p7,c7,rfl,_,_⟩:=hm7.parts;have hr7:=HMS.out.keep hb7;have hW7:=HWSS.out.keep hb7 (by omega);have hl7:=HBS.out.trans (hb7.mono HBS.out.size);have hs7:=hb7.size)
                | (go_at_call 150;refine (CM3.out _ _ hr7 hm7).mono ?_;rintro e w8 ⟨v8,rfl,hm8,hb8⟩;obtain ⟨p8,c8,rfl,_,_⟩:=hm8.parts;have hW8:=hW7.keep hb8 (by omega);have hl8:=hl7.trans (hb8.mono hl7.size);have hs8:=hb8.size))
              go_roundw
              case rel=>exact ⟨i,(i : Int) - 1,by omega,by first | rfl | go_num,rfl,hm8,hW8,hl8,by omega⟩
              case measure=>simp [intOf]
end
section
open Go.RowKit
open Qd (lims)
theorem cells4 (w : World) (x0 x1 y0 y1 z0 z1 u0 u1 : Value) (t : TypeId) : ((((((w.alloc (.cells #[x0,x1] t)).alloc (.cells #[y0,y1] t)).alloc (.cells #[z0,z1] t)).alloc (.cells #[u0,u1] t)).cell? ⟨w.heap.size,0,none⟩ = some x0/\((((w.alloc (.cells #[x0,x1] t)).alloc (.cells #[y0,y1] t)).alloc (.cells #[z0,z1] t)).alloc (.cells #[u0,u1] t)).cell? ⟨w.heap.size,1,none⟩ = some x1)/\(((((w.alloc (.cells #[x0,x1] t)).alloc (.cells #[y0,y1] t)).alloc (.cells #[z0,z1] t)).alloc (.cells #[u0,u1] t)).cell? ⟨w.heap.size + 1,0,none⟩ = some y0/\((((w.alloc (.cells #[x0,x1] t)).alloc (.cells #[y0,y1] t)).alloc (.cells #[z0,z1] t)).alloc (.cells #[u0,u1] t)).cell? ⟨w.heap.size + 1,1,none⟩ = some y1))/\((((((w.alloc (.cells #[x0,x1] t)).alloc (.cells #[y0,y1] t)).alloc (.cells #[z0,z1] t)).alloc (.cells #[u0,u1] t)).cell? ⟨w.heap.size + 1 + 1,0,none⟩ = some z0/\((((w.alloc (.cells #[x0,x1] t)).alloc (.cells #[y0,y1] t)).alloc (.cells #[z0,z1] t)).alloc (.cells #[u0,u1] t)).cell? ⟨w.heap.size + 1 + 1,1,none⟩ = some z1)/\(((((w.alloc (.cells #[x0,x1] t)).alloc (.cells #[y0,y1] t)).alloc (.cells #[z0,z1] t)).alloc (.cells #[u0,u1] t)).cell? ⟨w.heap.size + 1 + 1 + 1,0,none⟩ = some u0/\((((w.alloc (.cells #[x0,x1] t)).alloc (.cells #[y0,y1] t)).alloc (.cells #[z0,z1] t)).alloc (.cells #[u0,u1] t)).cell? ⟨w.heap.size + 1 + 1 + 1,1,none⟩ = some u1))/\((((((w.alloc (.cells #[x0,x1] t)).alloc (.cells #[y0,y1] t)).alloc (.cells #[z0,z1] t)).alloc (.cells #[u0,u1] t)).frozen? ⟨w.heap.size + 1 + 1,0,none⟩ = false/\((((w.alloc (.cells #[x0,x1] t)).alloc (.cells #[y0,y1] t)).alloc (.cells #[z0,z1] t)).alloc (.cells #[u0,u1] t)).frozen? ⟨w.heap.size + 1 + 1,1,none⟩ = false)/\(((((w.alloc (.cells #[x0,x1] t)).alloc (.cells #[y0,y1] t)).alloc (.cells #[z0,z1] t)).alloc (.cells #[u0,u1] t)).frozen? ⟨w.heap.size + 1 + 1 + 1,0,none⟩ = false/\((((w.alloc (.cells #[x0,x1] t)).alloc (.cells #[y0,y1] t)).alloc (.cells #[z0,z1] t)).alloc (.cells #[u0,u1] t)).frozen? ⟨w.heap.size + 1 + 1 + 1,1,none⟩ = false))/\((((w.alloc (.cells #[x0,x1] t)).alloc (.cells #[y0,y1] t)).alloc (.cells #[z0,z1] t)).alloc (.cells #[u0,u1] t)).heap.size = w.heap.size + 1 + 1 + 1 + 1:=by
  refine ⟨⟨⟨?_,?_⟩,⟨?_,?_⟩⟩,⟨⟨?_,?_⟩,⟨?_,?_⟩⟩,⟨⟨?_,?_⟩,⟨?_,?_⟩⟩,?_⟩ <;> go_simp
theorem ret74_2 {fn : Func} {R : Ending->World->Prop} {a : Act} {w : World} {t1 t2 : Nat} (hres : fn.results = #[.cell t1 74,.cell t2 74]) (b1 b2 : Nat) (ht1 : a.tmps.getD t1 undef = .pointer (some ⟨b1,0,none⟩)) (ht2 : a.tmps.getD t2 undef = .pointer (some ⟨b2,0,none⟩)) (x1 y1 x2 y2 : Value)
    (h1 : w.cell? ⟨b1,0,none⟩ = some x1) (h2 : w.cell? ⟨b1,1,none⟩ = some y1) (h3 : w.cell? ⟨b2,0,none⟩ = some x2) (h4 : w.cell? ⟨b2,1,none⟩ = some y2) (hdf : a.defers = []) (hR : R (.returned (.tuple #[.agg #[x1,y1],.agg #[x2,y2]])) w) : bodyPost Tryz.prog fn R .ret a w:=by
  refine bodyPost_ret (v:=.tuple #[.agg #[x1,y1],.agg #[x2,y2]]) ?_ hdf hR
  have r1:=run_loadVar_mid w b1 0 74 [x1,y1] _ (range_two h1 h2) Tryz.underlying74 rfl i74
  have r2:=run_loadVar_mid w b2 0 74 [x2,y2] _ (range_two h3 h4) Tryz.underlying74 rfl i74
  have h5 : ∀ tmps : Array Value,tmps.getD t1 undef = .pointer (some ⟨b1,0,none⟩)->tmps.getD t2 undef = .pointer (some ⟨b2,0,none⟩)->(results fn tmps).run Tryz.prog w = .ok (.tuple #[.agg #[x1,y1],.agg #[x2,y2]]) w:=by
    intro tmps ht1 ht2
    have ht1' : tmps[t1]?.getD undef = .pointer (some ⟨b1,0,none⟩):=by simpa using ht1
    have ht2' : tmps[t2]?.getD undef = .pointer (some ⟨b2,0,none⟩):=by simpa using ht2
    unfold results
    rw [hres]
    simp [asAddr,ht1',ht2',r1,r2]
  exact h5 _ ht1 ht2
theorem abs_up (D : Nat) : ((D : Nat) : Int).natAbs = D:=by omega
theorem abs_dn (D : Nat) : (-((D : Nat) : Int)).natAbs = D:=by omega
theorem sgn_up (D : Nat) : decide (((D : Nat) : Int) < 0) = (false && !decide (D = 0)):=(dec_of (by simp)).symm
theorem sgn_dn (D : Nat) : decide (-((D : Nat) : Int) < 0) = (true && !decide (D = 0)):=(dec_of (by simp;omega)).symm
end
section
open Go.RowKit
open Qd (lims)
set_option maxHeartbeats 4000000 in
set_option maxRecDepth 100000 in
theorem refOver_pos (b : Bool) (s t : Value) (m n : Nat) (hn : 0 < n) (h1 : Qd.lsz m <= 5000) (h2 : Qd.lsz n <= 5000) (w : World) (hs : Mags w s m) (ht : Mags w t n) :
    Calls Tryz.prog 91 #[.agg #[.bool false,s],.agg #[.bool b,t]] w fun e w'=>∃ v u,e = .returned (.tuple #[.agg #[.bool ((false != b) && !decide (m / n = 0)),v],.agg #[.bool false,u]])/\Mags w' v (m / n)/\Mags w' u (m % n)/\Below w.heap.size w w':=by
  have C1:=Lib.hid (fun W (hb : Below w.heap.size w W)=>refOverM_any s t m n hn h1 h2 W (hs.keep hb) (ht.keep hb))
  have hl1 : Qd.lsz (m / n) <= 5000:=Nat.le_trans (Qd.lsz_mono (Nat.div_le_self m n)) h1
  have hl2 : Qd.lsz (m % n) <= 5000:=Nat.le_trans (Qd.lsz_mono (Nat.mod_le m n)) h1
  have C2:=Lib.hid (fun W v (hm : Mags W v (m / n))=>refTrim_any b v (m / n) _ (by omega) (Qd.lsz_lt _) W hm)
  have C3:=Lib.hid (fun W v (hm : Mags W v (m % n))=>refTrim_any false v (m % n) _ (by omega) (Qd.lsz_lt _) W hm)
  obtain ⟨p,c1,rfl,_,_⟩:=hs.parts
  obtain ⟨q,d1,rfl,_,_⟩:=ht.parts
  obtain ⟨a1,ha1⟩ : ∃ a,Qd.lsz m = a:=⟨_,rfl⟩
  obtain ⟨a2,ha2⟩ : ∃ a,Qd.lsz n = a:=⟨_,rfl⟩
  rw [ha1,ha2] at C1 ⊢
  obtain ⟨z,hz⟩ : ∃ z,((false != b) && !decide (m / n = 0)) = z:=⟨_,rfl⟩
  have hz2 : (b && !decide (m / n = 0)) = z:=by rw [<- hz];cases b <;> rfl
  rw [hz2] at C2
  rw [hz]
  obtain ⟨Q,hQ⟩ : ∃ Q,m / n = Q:=⟨_,rfl⟩
  obtain ⟨R,hR⟩ : ∃ R,m % n = R:=⟨_,rfl⟩
  rw [hQ,hR] at C1
  rw [hQ] at C2 hl1 ⊢
  rw [hR] at C3 hl2 ⊢
  skip
  clear hs ht h1 h2 ha1 ha2 hz hz2 hQ hR hn
  obtain ⟨⟨⟨k00,k01⟩,⟨k10,k11⟩⟩,⟨⟨k20,k21⟩,⟨k30,k31⟩⟩,⟨⟨f20,f21⟩,⟨f30,f31⟩⟩,ksz⟩:=cells4 w (.bool false) (.slice p a1 c1) (.bool b) (.slice q a2 d1) (.bool false) (.slice none 0 0) (.bool false) (.slice none 0 0) 74
  go_enter Tryz.func91,Tryz.ntmps91
  go_wp2_with (first
    | (go_at_call 158;(with_reducible refine (C1.out _ (by repeat' first | exact Below.refl _ _ | assumption | refine Below.setCell ?_ ?_ _ | refine Below.alloc ?_ ?_ _ | refine below_drewN ?_ | refine Below.drew ?_ | (simp;done) | (simp;omega))).mono ?_);rintro e w2 ⟨v2,u2,rfl,hv2,hu2,hb2⟩;obtain ⟨p2,c2,rfl,_,_⟩:=hv2.parts;obtain ⟨p3,c3,rfl,_,_⟩:=hu2.parts;have m00:=cell_kept k00 hb2;have m01:=cell_kept k01 hb2;have m10:=cell_kept k10 hb2;have m11:=cell_kept k11 hb2;have m20:=cell_kept k20 hb2;have m21:=cell_kept k21 hb2;have m30:=cell_kept k30 hb2;have m31:=cell_kept k31 hb2;have g20:=frozen_kept f20 hb2 (by rw [ksz];simp;try omega);have g21:=frozen_kept f21 hb2 (by rw [ksz];simp;try omega);have g30:=frozen_kept f30 hb2 (by rw [ksz];simp;try omega);have g31:=frozen_kept f31 hb2 (by rw [ksz];simp;try omega);have hs2:=hb2.size;rw [ksz] at hs2;have hlow2:=Below.trans (a:=w) (B:=w.heap.size) (by repeat' first | exact Below.refl _ _ | assumption | refine Below.setCell ?_ ?_ _ | refine Below.alloc ?_ ?_ _ | refine below_drewN ?_ | refine Below.drew ?_ | (simp;done) | (simp;omega)) (Below.mono hb2 (Below.size (B:=w.heap.size) (w:=w) (by repeat' first | exact Below.refl _ _ | assumption | refine Below.setCell ?_ ?_ _ | refine Below.alloc ?_ ?_ _ | refine below_drewN ?_ | refine Below.drew ?_ | (simp;done) | (simp;omega)))))
    | (go_at_call 144;(with_reducible refine (C2.out _ _ hv2).mono ?_);rintro e w3 ⟨v3,rfl,hv3,hb3⟩;obtain ⟨p4,c4,rfl,_,_⟩:=hv3.parts;have o00:=cell_kept m00 hb3;have o01:=cell_kept m01 hb3;have o10:=cell_kept m10 hb3;have o11:=cell_kept m11 hb3;have o20:=cell_kept m20 hb3;have o21:=cell_kept m21 hb3;have o30:=cell_kept m30 hb3;have o31:=cell_kept m31 hb3;have e20:=frozen_kept g20 hb3 (by simp;omega);have e21:=frozen_kept g21 hb3 (by simp;omega);have e30:=frozen_kept g30 hb3 (by simp;omega);have e31:=frozen_kept g31 hb3 (by simp;omega);have hs3:=hb3.size;have hu3:=hu2.keep hb3;have hlow3:=Below.trans hlow2 (Below.mono hb3 (Below.size hlow2));have hb4 : Below w3.heap.size w3 ((w3.alloc (.cells #[.bool z,.slice p4 (Qd.lsz Q) c4] 74)).alloc (.cells #[.bool false,.slice p3 (Qd.lsz R) c3] 74)):=(by repeat' first | exact Below.refl _ _ | assumption | refine Below.setCell ?_ ?_ _ | refine Below.alloc ?_ ?_ _ | refine below_drewN ?_ | refine Below.drew ?_ | (simp;done) | (simp;omega));have q00:=cell_kept o00 hb4;have q01:=cell_kept o01 hb4;have q10:=cell_kept o10 hb4;have q11:=cell_kept o11 hb4;have q20:=cell_kept o20 hb4;have q21:=cell_kept o21 hb4;have q30:=cell_kept o30 hb4;have q31:=cell_kept o31 hb4;have r20:=frozen_kept e20 hb4 (by simp;omega);have r21:=frozen_kept e21 hb4 (by simp;omega);have r30:=frozen_kept e30 hb4 (by simp;omega);have r31:=frozen_kept e31 hb4 (by simp;omega);obtain ⟨⟨t80,t81⟩,⟨t90,t91⟩,_,_⟩:=cells2 w3 (.bool z) (.slice p4 (Qd.lsz Q) c4) (.bool false) (.slice p3 (Qd.lsz R) c3) 74 74;have hlow4:=Below.trans hlow3 (Below.mono hb4 (Below.size hlow3));have hs4 : ((w3.alloc (.cells #[.bool z,.slice p4 (Qd.lsz Q) c4] 74)).alloc (.cells #[.bool false,.slice p3 (Qd.lsz R) c3] 74)).heap.size = w3.heap.size + 1 + 1:=(by simp)))
  have hu4:=hu3.keep hb4
  have t8n : w3.heap.size ≠ w.heap.size + 1 + 1:=by omega
  have t8m : w3.heap.size ≠ w.heap.size + 1 + 1 + 1:=by omega
  have t9n : w3.heap.size + 1 ≠ w.heap.size + 1 + 1:=by omega
  have t9m : w3.heap.size + 1 ≠ w.heap.size + 1 + 1 + 1:=by omega
  go_region_held3 (fun w'=>w'.cell? ⟨w3.heap.size,0,none⟩ = some (.bool z)/\w'.cell? ⟨w3.heap.size,1,none⟩ = some (.slice p4 (Qd.lsz Q) c4)/\w'.cell? ⟨w3.heap.size + 1,0,none⟩ = some (.bool false)/\w'.cell? ⟨w3.heap.size + 1,1,none⟩ = some (.slice p3 (Qd.lsz R) c3)) (first | exact ⟨t80,t81,t90,t91⟩ | exact ⟨s80,s81,s90,s91⟩ | exact ⟨cell_set (cell_set s80 t8n) t8n,cell_set (cell_set s81 t8n) t8n,cell_set (cell_set s90 t9n) t9n,cell_set (cell_set s91 t9n) t9n⟩ | exact ⟨cell_set (cell_set (cell_set (cell_set s80 t8n) t8n) t8m) t8m,cell_set (cell_set (cell_set (cell_set s81 t8n) t8n) t8m) t8m,cell_set (cell_set (cell_set (cell_set s90 t9n) t9n) t9m) t9m,cell_set (cell_set (cell_set (cell_set s91 t9n) t9n) t9m) t9m⟩ | go_keep)
    (first | (go_at_call 144;(with_reducible refine (C3.out _ _ (by exact hu3.keep (by repeat' first | exact Below.refl _ _ | assumption | refine Below.setCell ?_ ?_ _ | refine Below.alloc ?_ ?_ _ | refine below_drewN ?_ | refine Below.drew ?_ | (simp;done) | (simp;omega)))).mono ?_);rintro e w5 ⟨v5,rfl,hv5,hb5⟩;obtain ⟨p5,c5,rfl,_,_⟩:=hv5.parts;have s80:=cell_kept (p:=⟨w3.heap.size,0,none⟩) (v:=.bool z) (by exact t80) hb5;have s81:=cell_kept (p:=⟨w3.heap.size,1,none⟩) (v:=.slice p4 (Qd.lsz Q) c4) (by exact t81) hb5;have s90:=cell_kept (p:=⟨w3.heap.size + 1,0,none⟩) (v:=.bool false) (by exact t90) hb5;have s91:=cell_kept (p:=⟨w3.heap.size + 1,1,none⟩) (v:=.slice p3 (Qd.lsz R) c3) (by exact t91) hb5;have s20:=cell_kept (p:=⟨w.heap.size + 1 + 1,0,none⟩) (v:=.bool false) (by exact q20) hb5;have s21:=cell_kept (p:=⟨w.heap.size + 1 + 1,1,none⟩) (v:=.slice none 0 0) (by exact q21) hb5;have s30:=cell_kept (p:=⟨w.heap.size + 1 + 1 + 1,0,none⟩) (v:=.bool false) (by exact q30) hb5;have s31:=cell_kept (p:=⟨w.heap.size + 1 + 1 + 1,1,none⟩) (v:=.slice none 0 0) (by exact q31) hb5;have sf20:=frozen_kept (p:=⟨w.heap.size + 1 + 1,0,none⟩) (b:=false) (by exact r20) hb5 (by have:=hs4;simp at this ⊢;omega);have sf21:=frozen_kept (p:=⟨w.heap.size + 1 + 1,1,none⟩) (b:=false) (by exact r21) hb5 (by have:=hs4;simp at this ⊢;omega);have sf30:=frozen_kept (p:=⟨w.heap.size + 1 + 1 + 1,0,none⟩) (b:=false) (by exact r30) hb5 (by have:=hs4;simp at this ⊢;omega);have sf31:=frozen_kept (p:=⟨w.heap.size + 1 + 1 + 1,1,none⟩) (b:=false) (by exact r31) hb5 (by have:=hs4;simp at this ⊢;omega);have hv4:=hv3.keep hb4;have hb5' : Below w3.heap.size w3 w5:=Below.trans (B:=w3.heap.size) (by repeat' first | exact Below.refl _ _ | assumption | refine Below.setCell ?_ ?_ _ | refine Below.alloc ?_ ?_ _ | refine below_drewN ?_ | refine Below.drew ?_ | (simp;done) | (simp;omega)) (Below.mono hb5 (Below.size (B:=w3.heap.size) (w:=w3) (by repeat' first | exact Below.refl _ _ | assumption | refine Below.setCell ?_ ?_ _ | refine Below.alloc ?_ ?_ _ | refine below_drewN ?_ | refine Below.drew ?_ | (simp;done) | (simp;omega))));have hv5q:=hv3.keep hb5';have hlow5:=hlow3.trans (hb5'.mono hlow3.size);have hs5:=hb5'.size))
  go_wp2_with fail
  have hne23 : w.heap.size + 1 + 1 + 1 ≠ w.heap.size + 1 + 1:=by omega
  have u30:=cell_set (a:=⟨w.heap.size + 1 + 1,1,none⟩) (u:=.slice p4 (Qd.lsz Q) c4) (cell_set (a:=⟨w.heap.size + 1 + 1,0,none⟩) (u:=.bool z) s30 hne23) hne23
  refine ret74_2 Tryz.results91 _ _ rfl rfl (.bool z) (.slice p4 (Qd.lsz Q) c4) (.bool false) (.slice p5 (Qd.lsz R) c5) (by go_simp) (by go_simp) (by go_simp) (by go_simp) rfl ?_
  exact ⟨_,_,rfl,Mg.set2 (Mg.set2 hv5q s20 _ _) u30 _ _,Mg.set2 (Mg.set2 hv5 s20 _ _) u30 _ _,(by repeat' first | exact Below.refl _ _ | assumption | refine Below.setCell ?_ ?_ _ | refine Below.alloc ?_ ?_ _ | refine below_drewN ?_ | refine Below.drew ?_ | (simp;done) | (simp;omega))⟩
end
end Go.Proofs.YtpbegoflpfdajaaGreatDoor
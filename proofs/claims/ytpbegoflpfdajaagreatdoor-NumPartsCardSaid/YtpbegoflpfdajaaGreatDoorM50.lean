/- WHAT IS PROVED: contracts of functions of the numbers package and laws for them, used by the last text of this claim. CONDITIONS: stated at each theorem. -/
import Derived.Deep.LoopGhost
import Derived.Deep.CutRange
import Derived.Test.YtpbegoflpfdajaaGreatDoorM49
import Derived.Test.YtpbegoflpfdajaaGreatDoorM36
import Derived.Test.YtpbegoflpfdajaaGreatDoorM33
namespace Go.Proofs.YtpbegoflpfdajaaGreatDoor
section
open Go.RowKit
open Qd (lims)
theorem lsz_tenp (j : Nat) : Qd.lsz ((10 : Int) ^ j).natAbs <= j + 1:=by
  rw [Int.natAbs_pow]
  refine (Qd.lsz_le_iff _ _).2 ?_
  show 10 ^ j < Qd.bb ^ (j + 1)
  have h1 : 10 ^ j <= Qd.bb ^ j:=Nat.pow_le_pow_left (by unfold Qd.bb;omega) j
  have h2 : Qd.bb ^ j < Qd.bb ^ (j + 1):=by rw [Nat.pow_succ];have : 0 < Qd.bb ^ j:=Nat.pow_pos (by unfold Qd.bb;omega);unfold Qd.bb at *;omega
  omega
theorem ckD_one {l : List UInt8} (h : dcF l = false) : ckD l = 1:=by unfold ckD;rw [if_pos h]
theorem str_cat (s : ByteArray) (a n : Nat) (hn : s.size = n) : (s.extract 0 a ++ s.extract (a + 1) n : ByteArray).data.toList = s.data.toList.take a ++ s.data.toList.drop (a + 1):=by
  subst hn
  rw [str_take,str_drop]
  simp
theorem get_c (s : ByteArray) (k : Nat) (h : k < s.size) : s.data.toList[k]? = some (s[k]'h):=by
  rw [List.getElem?_eq_getElem (by simpa using h)]
  have e : s.data.toList[k]'(by simpa using h) = s[k]'h:=by simp;rfl
  rw [e]
theorem okA_succ {l : List UInt8} {k : Nat} {c : UInt8} (h : okA l k) (hk : l[k]? = some c) (hc : isDig c = true) : okA l (k + 1):=fun j d hj e=>by
  rcases Nat.lt_or_ge j k with g | g
  · exact h j d g e
  · obtain rfl : j = k:=by omega
    rw [hk] at e;injection e with e;rw [<- e];exact hc
theorem oneA_succ {l : List UInt8} {a k : Nat} {c : UInt8} (h : oneA l a k) (hk : l[k]? = some c) (hc : isDig c = true) : oneA l a (k + 1):=⟨by have:=h.1;omega,h.2.1,fun j d hj hne e=>by
  rcases Nat.lt_or_ge j k with g | g
  · exact h.2.2 j d g hne e
  · obtain rfl : j = k:=by omega
    rw [hk] at e;injection e with e;rw [<- e];exact hc⟩
theorem oneA_new {l : List UInt8} {k : Nat} (h : okA l k) (hk : l[k]? = some 46) : oneA l k (k + 1):=⟨by omega,hk,fun j d hj hne e=>h j d (by omega) e⟩
set_option maxHeartbeats 8000000 in
set_option maxRecDepth 100000 in
theorem refFromDecimal_any (s : ByteArray) (n : Nat) (hn : s.size = n) (hmax : n <= 300) (w : World) :
    Calls Tryz.prog 52 #[.string s] w fun e w'=>e = .returned (if ckD s.data.toList ≠ 0 then errT (ckD s.data.toList) else resR (valL (dcW s.data.toList ++ dcP s.data.toList)) false (10 ^ (dcP s.data.toList).length) false)/\Below w.heap.size w w':=by
  have hlen : s.data.toList.length = n:=by rw [<- hn];simp
  have Hg:=Lib.hid (fun k (h : k < s.size)=>get_c s k h)
  have Hcat:=Lib.hid (fun a=>str_cat s a n hn)
  obtain ⟨l,hl⟩ : ∃ l,s.data.toList = l:=⟨_,rfl⟩
  rw [hl] at hlen Hg Hcat
  rw [hl]
  obtain ⟨R,hR⟩ : ∃ v,(if ckD l ≠ 0 then errT (ckD l) else resR (valL (dcW l ++ dcP l)) false (10 ^ (dcP l).length) false) = v:=⟨_,rfl⟩
  rw [hR]
  have HR:=Lib.hid hR
  have HL:=Lib.hid hlen
  have HBAD : Hid (dcF l = false->R = .tuple #[.string ⟨#[]⟩,.int .i64 1]):=Lib.hid (fun h=>by rw [<- hR,if_pos (by rw [ckD_one h];decide),ckD_one h];rfl)
  clear hl hR hlen
  go_enter Tryz.func52,Tryz.ntmps52
  go_wp2
  go_loopg [4,5] n (fun g at_ i wr=>w = wr/\∃ k : Nat,k <= n/\g = n - k/\i = .int .i64 k/\((at_ = .int .i64 (-1)/\okA l k) ∨ ∃ a : Nat,at_ = .int .i64 a/\oneA l a k))
  case atStart=>exact ⟨rfl,0,by omega,rfl,rfl,Or.inl ⟨rfl,fun j c hj=>by omega⟩⟩
  case round =>
    obtain ⟨rfl,k,hk,rfl,rfl,hat⟩:=hrel
    by_cases hp : k < n
    · have hp2 : k < s.size:=by omega
      have HS:=Lib.hid (Hg.out k hp2)
      obtain ⟨u,hu⟩ : ∃ u,s[k]'hp2 = u:=⟨_,rfl⟩
      rw [hu] at HS
      obtain ⟨c,hc⟩ : ∃ c,u.toNat = c:=⟨_,rfl⟩
      have hlt : c < 256:=by rw [<- hc];exact UInt8.toNat_lt _
      have Cd:=Lib.hid (fun W=>show Calls Tryz.prog 121 #[.int .u8 c] W fun e w'=>e = .returned (.bool (isDig u))/\w' = W by
        have:=refDigit_any c W
        rwa [<- hc,dec_isDig,hc] at this)
      have hki : (k : Int) < (n : Int):=by omega
      by_cases h46 : u = 46
      · have b1 : ((c : Int) == 46) = true:=by rw [<- hc,h46];rfl
        have hd : isDig u = false:=by rw [h46];exact dot_dig
        rw [hd] at Cd
        have HN46:=Lib.hid h46;have HD:=Lib.hid hd
        clear h46 hd
        rcases hat with ⟨rfl,hno⟩ | ⟨a,rfl,hone⟩
        · have HN:=Lib.hid hno;clear hno
          have b2 : decide ((-1 : Int) < 0) = true:=by decide
          go_wp2
          go_roundg (n - (k + 1))
          case measure=>omega
          case rel=>exact ⟨rfl,k + 1,by omega,rfl,by go_num,Or.inr ⟨k,rfl,oneA_new HN.out (by rw [<- HN46.out];exact HS.out)⟩⟩
        · have HN:=Lib.hid hone;clear hone
          have b2 : decide ((a : Int) < 0) = false:=by simp
          go_wp2_with (go_at_call 121;(with_reducible refine (Cd.out _).mono ?_);rintro e w1 ⟨rfl,rfl⟩)
          go_ret2
          exact ⟨by rw [HBAD.out (dc_bad1 HN.out HS.out HD.out)];rfl,Below.refl _ _⟩
      · have b1 : ((c : Int) == 46) = false:=by
          have : c ≠ 46:=fun e=>h46 (UInt8.toNat_inj.1 (by rw [hc,e];rfl))
          simp;omega
        have HN46:=Lib.hid h46
        have HA:=Lib.hid hat
        clear h46 hat
        obtain ⟨d,hd⟩ : ∃ d,isDig u = d:=⟨_,rfl⟩
        rw [hd] at Cd
        have HD:=Lib.hid hd;clear hd
        cases d
        · go_wp2_with (go_at_call 121;(with_reducible refine (Cd.out _).mono ?_);rintro e w1 ⟨rfl,rfl⟩)
          go_ret2
          exact ⟨by
            rw [HBAD.out (by
              rcases HA.out with ⟨_,h⟩ | ⟨a,_,h⟩
              · exact dc_bad0 h HS.out HD.out HN46.out
              · exact dc_bad1 h HS.out HD.out)]
            rfl,Below.refl _ _⟩
        · go_wp2_with (go_at_call 121;(with_reducible refine (Cd.out _).mono ?_);rintro e w1 ⟨rfl,rfl⟩)
          go_roundg (n - (k + 1))
          case measure=>omega
          case rel =>
            refine ⟨rfl,k + 1,by omega,rfl,by go_num,?_⟩
            rcases HA.out with ⟨e,h⟩ | ⟨a,e,h⟩
            · exact Or.inl ⟨e,okA_succ h HS.out HD.out⟩
            · exact Or.inr ⟨a,e,oneA_succ h HS.out HD.out⟩
    · obtain rfl : k = n:=by omega
      have hki : ¬ (k : Int) < (k : Int):=by omega
      rcases hat with ⟨rfl,hno⟩ | ⟨a,rfl,hone⟩
      · have HN:=Lib.hid hno;clear hno
        have b2 : decide ((-1 : Int) < 1) = true:=by decide
        go_wp2
        go_ret2
        exact ⟨by rw [HBAD.out (dc_none (by rw [HL.out];exact HN.out))];rfl,Below.refl _ _⟩
      · have ha:=hone.1
        have HN:=Lib.hid (dc_one (l:=l) (a:=a) (by rw [HL.out];exact hone));clear hone
        by_cases h0 : a = 0
        · have b2 : decide ((a : Int) < 1) = true:=by simp;omega
          have hf : dcF l = false:=by rw [HN.out.2.2.1,decide_eq_false (by omega)];rfl
          have HF:=Lib.hid hf
          clear h0 hf
          go_wp2
          go_ret2
          exact ⟨by rw [HBAD.out HF.out];rfl,Below.refl _ _⟩
        · have b2 : decide ((a : Int) < 1) = false:=by simp;omega
          by_cases h1 : a + 1 = k
          · have b3 : ((a : Int) == (k : Int) - 1) = true:=by simp;omega
            have hf : dcF l = false:=by rw [HN.out.2.2.1,decide_eq_false (show ¬ 0 < l.length - (a + 1) by rw [HL.out];omega)];simp
            have HF:=Lib.hid hf
            clear h0 hf h1
            go_wp2
            go_ret2
            exact ⟨by rw [HBAD.out HF.out];rfl,Below.refl _ _⟩
          · have b3 : ((a : Int) == (k : Int) - 1) = false:=by simp;omega
            have hf : dcF l = true:=by rw [HN.out.2.2.1,decide_eq_true (show 0 < a by omega),decide_eq_true (show 0 < l.length - (a + 1) by rw [HL.out];omega)];rfl
            have hwp : (dcW l).length + (dcP l).length = k - 1:=by rw [HN.out.1,HN.out.2.1,List.length_take,List.length_drop,HL.out];omega
            by_cases h2 : 120 < k - 1
            · have b4 : decide ((120 : Int) < (k : Int) - 1) = true:=by simp;omega
              have hr : R = .tuple #[.string ⟨#[]⟩,.int .i64 4]:=by
                have hc4 : ckD l = 4:=by unfold ckD;rw [if_neg (by rw [hf];decide),if_pos (by omega)]
                rw [<- HR.out,if_pos (by rw [hc4];decide),hc4];rfl
              have HRR:=Lib.hid hr
              clear h0 h1 h2 hf hwp hr
              go_wp2
              go_ret2
              exact ⟨by rw [HRR.out];rfl,Below.refl _ _⟩
            · have b4 : decide ((120 : Int) < (k : Int) - 1) = false:=by simp;omega
              have hr : R = resR (valL (l.take a ++ l.drop (a + 1))) false (10 ^ (k - (a + 1))) false:=by
                have hc0 : ckD l = 0:=by unfold ckD;rw [if_neg (by rw [hf];decide),if_neg (by omega)]
                rw [<- HR.out,if_neg (by rw [hc0];decide),HN.out.1,HN.out.2.1,List.length_drop,HL.out]
              have HRR:=Lib.hid hr
              have C1:=Lib.hid (fun W=>refSmall_any 1 (by omega) (by omega) W)
              have i1 : (a : Int) <= (k : Int):=by omega
              have i2 : (a : Int) + 1 <= (k : Int):=by omega
              clear h0 hf hwp hr HR HBAD Hg
              go_upto_region 14 with (go_at_call 68;(with_reducible refine (C1.out _).mono ?_);rintro e w1 ⟨v1,rfl,hg1,hb1⟩;obtain ⟨t1,p1,c1,rfl,ht1,hm1⟩:=hg1.opened)
              have hl0 : Below w.heap.size w (w1.alloc (.cells #[.bool t1,.slice p1 (Qd.lsz 1) c1] 74)):=hb1.alloc hb1.size _
              have B0 : Bk (w1.alloc (.cells #[.bool t1,.slice p1 (Qd.lsz 1) c1] 74)) w1.heap.size 1 t1 (.slice p1 (Qd.lsz 1) c1):=Bk.new w1 (z:=1) ht1 hm1
              have hDw:=hb1.size
              obtain ⟨D,hD⟩ : ∃ d,w1.heap.size = d:=⟨_,rfl⟩
              rw [hD] at B0 hDw
              simp only [hD]
              clear hD hg1 hb1 hm1 ht1 C1
              generalize w1.alloc (.cells #[.bool t1,.slice p1 (Qd.lsz 1) c1] 74) = W1 at *
              have HB0:=Lib.hid B0;have HL0:=Lib.hid hl0
              clear B0 hl0
              have C10:=Lib.hid (fun W=>refSmall_any 10 (by omega) (by omega) W)
              have HN2:=Lib.hid h2
              clear h2
              go_wp2
              go_loopg [7] (k - (a + 1)) (fun g i wx=>∃ (j : Nat) (t : Bool) (p : Option Addr) (m c : Nat),a + 1 + j <= k/\g = k - (a + 1 + j)/\i = .int .i64 ((a + 1 + j : Nat) : Int)/\Bk wx D (10 ^ j) t (.slice p m c)/\Below w.heap.size w wx)
              case atStart=>exact ⟨0,_,_,_,_,by omega,rfl,by go_num,HB0.out,HL0.out⟩
              case round =>
                clear HB0 HL0
                obtain ⟨j,t,p,m,c,hj,rfl,rfl,hB,hl⟩:=hrel
                have a0:=hB.c0;have a1:=hB.c1;have a2:=hB.f0;have a3:=hB.f1
                have hDs:=hB.lt
                have HB:=Lib.hid hB;have HLW:=Lib.hid hl
                clear hB hl
                by_cases hjn : a + 1 + j < k
                · have hki2 : ((a + 1 + j : Nat) : Int) < (k : Int):=by omega
                  have lj:=lsz_tenp j
                  have CT:=Lib.hid (fun W v1 v2 (g1 : BigAt W v1 (10 ^ j)) (g2 : BigAt W v2 10)=>by have:=refTimes_any v1 v2 (10 ^ j) 10 (by omega) (by have:=lsz_tenp 1;rw [Int.pow_succ,Int.pow_zero,Int.one_mul] at this;omega) W g1 g2;rwa [<- Int.pow_succ] at this)
                  clear lj
                  go_upto_region 17 with fail
                  go_region_with (first
                    | (go_at_call 68;(with_reducible refine (C10.out _).mono ?_);rintro e w3 ⟨v3,rfl,hg3,hb3⟩;obtain ⟨t3,p3,k3,c3,rfl⟩:=hg3.shape;have hb3q : Below wr.heap.size wr w3:=Below.trans (B:=wr.heap.size) (by repeat' first | exact Below.refl _ _ | assumption | refine Below.setCell ?_ ?_ _ | refine Below.alloc ?_ ?_ _ | refine below_drewN ?_ | refine Below.drew ?_ | (simp;done) | (simp;omega)) (Below.mono hb3 (by first | omega | (simp;done) | (simp;omega)));have hs3:=hb3q.size;have d0:=cell_kept a0 hb3q;have d1:=cell_kept a1 hb3q;have d2:=frozen_kept a2 hb3q hDs;have d3:=frozen_kept a3 hb3q hDs)
                    | (go_at_call 84;(with_reducible refine (CT.out _ _ _ (keep_on HB.out.big hb3q (by repeat' first | exact Below.refl _ _ | assumption | refine Below.setCell ?_ ?_ _ | refine Below.alloc ?_ ?_ _ | refine below_drewN ?_ | refine Below.drew ?_ | (simp;done) | (simp;omega))) (hg3.keep (by repeat' first | exact Below.refl _ _ | assumption | refine Below.setCell ?_ ?_ _ | refine Below.alloc ?_ ?_ _ | refine below_drewN ?_ | refine Below.drew ?_ | (simp;done) | (simp;omega)))).mono ?_);rintro e w5 ⟨v5,rfl,hg5,hb5⟩;obtain ⟨t5,p5,c5,rfl,ht5,hm5⟩:=hg5.opened;have hb5q : Below wr.heap.size wr w5:=hb3q.trans (Below.trans (a:=w3) (B:=wr.heap.size) (by repeat' first | exact Below.refl _ _ | assumption | refine Below.setCell ?_ ?_ _ | refine Below.alloc ?_ ?_ _ | refine below_drewN ?_ | refine Below.drew ?_ | (simp;done) | (simp;omega)) (Below.mono hb5 (by first | omega | (simp;done) | (simp;omega))));have f0:=cell_kept a0 hb5q;have f1:=cell_kept a1 hb5q;have f2:=frozen_kept a2 hb5q hDs;have f3:=frozen_kept a3 hb5q hDs))
                  all_goals go_wp2_with fail
                  all_goals (go_roundg (k - (a + 1 + (j + 1)));(case measure=>omega);(case rel=>exact ⟨j + 1,t5,p5,_,c5,by omega,rfl,by go_num,(HB.out.keep hb5q).set ht5 hm5,((HLW.out.trans (hb5q.mono HLW.out.size)).setCell (p:=⟨D,0,none⟩) hDw _).setCell (p:=⟨D,1,none⟩) hDw _⟩))
                · obtain ⟨M,hM⟩ : ∃ m,k - (a + 1) = m:=⟨_,rfl⟩
                  obtain rfl : j = M:=by omega
                  have hki2 : ¬ ((a + 1 + j : Nat) : Int) < (k : Int):=by omega
                  have hT:=Hcat.out a
                  have hlen : (l.take a ++ l.drop (a + 1)).length = a + j:=by rw [List.length_append,List.length_take,List.length_drop,HL.out];omega
                  have hdig:=HN.out.2.2.2
                  have hz1 : (s.extract 0 a).size <= 200:=by rw [ByteArray.size_extract];have:=HN2.out;omega
                  have hz2 : (s.extract (a + 1) k).size <= 200:=by rw [ByteArray.size_extract];have:=HN2.out;omega
                  have hRR:=HRR.out
                  rw [hM] at hRR
                  have HRR2:=Lib.hid hRR
                  obtain ⟨X,hX⟩ : ∃ X,l.take a ++ l.drop (a + 1) = X:=⟨_,rfl⟩
                  rw [hX] at hT hlen hdig hRR
                  have hv : valL X < 10 ^ 120:=by
                    have:=valL_lt X hdig
                    have h2 : 10 ^ X.length <= 10 ^ 120:=Nat.pow_le_pow_right (by omega) (by have:=HN2.out;omega)
                    omega
                  have lv : Qd.lsz (valL X : Int).natAbs <= 30:=lsz_fit (by rw [abs_up];exact hv)
                  have lj:=lsz_tenp j
                  have R1:=Lib.hid (fun W=>refRead_p (s.extract 0 a ++ s.extract (a + 1) k) X hT (by
                    intro e
                    cases X with
                    | nil=>cases e
                    | cons c t =>
                      injection e with e
                      have:=hdig c (List.mem_cons_self)
                      rw [e] at this
                      exact absurd this (by decide)) hdig (by omega) (by have:=HN2.out;omega) W)
                  have hten : ((10 ^ j : Nat) : Int) = (10 : Int) ^ j:=by rw [Int.natCast_pow];rfl
                  have CL:=Lib.hid (fun W v1 v2 (g1 : BigAt W v1 (valL X : Int)) (g2 : BigAt W v2 (10 ^ j))=>refLowest_any v1 v2 (valL X) (10 ^ j) (by rw [<- hten];have : 0 < 10 ^ j:=Nat.pow_pos (by omega);omega) (by omega) (by have:=HN2.out;omega) W g1 g2)
                  have lf:=low_fit (P:=(valL X : Int)) (Q:=10 ^ j) (k:=300) (by omega) (by have:=HN2.out;omega)
                  have CWr:=Lib.hid (fun W v (g : FrAt W v (lowP (valL X : Int) (10 ^ j)) (lowQ (valL X : Int) (10 ^ j)))=>by have:=refWriteReal_any v _ _ (by omega) (by omega) W g;rwa [lowR (P:=(valL X : Int)) (Q:=10 ^ j) (p:=valL X) (s:=false) (q:=10 ^ j) (t:=false) rfl hten (Nat.ne_of_gt (Nat.pow_pos (by omega)))] at this)
                  rw [<- hRR] at CWr
                  obtain ⟨ra,rb,hRt⟩:=resR_two (valL X) false (10 ^ j) false
                  rw [<- hRR] at hRt
                  rw [hRt] at CWr
                  have HRT:=Lib.hid hRt
                  obtain ⟨lp,hlp⟩ : ∃ z,lowP (valL X : Int) (10 ^ j) = z:=⟨_,rfl⟩
                  obtain ⟨lq,hlq⟩ : ∃ z,lowQ (valL X : Int) (10 ^ j) = z:=⟨_,rfl⟩
                  rw [hlp,hlq] at CL CWr
                  obtain ⟨vX,hvX⟩ : ∃ z : Int,(valL X : Int) = z:=⟨_,rfl⟩
                  rw [hvX] at R1 CL
                  obtain ⟨vT,hvT⟩ : ∃ z : Int,(10 : Int) ^ j = z:=⟨_,rfl⟩
                  rw [hvT] at CL HB
                  clear hT hlen hdig hX hv lv lj hten lf hRt hlp hlq hvX hvT hRR HRR HRR2 hM C10 Hcat HL HN HN2
                  have hw1 : IntKind.i64.wrap ((a : Int) + 1) = (a : Int) + 1:=IntWalk.i64_in _ (by omega)
                  have i3 : (0 : Int) <= (a : Int) + 1:=by omega
                  have i4 : (0 : Int) <= (a : Int):=by omega
                  have i5 : min a k + (k - (a + 1)) <= 9223372036854775807:=by omega
                  go_upto_region 18 with fail
                  go_region_with
                    (first
                      | (go_at_call 70;(with_reducible refine (R1.out _).mono ?_);rintro e w3 ⟨v3,rfl,hg3,hb3⟩;obtain ⟨t3,p3,k3,c3,rfl⟩:=hg3.shape;have hb3q : Below wr.heap.size wr w3:=Below.trans (B:=wr.heap.size) (by repeat' first | exact Below.refl _ _ | assumption | refine Below.setCell ?_ ?_ _ | refine Below.alloc ?_ ?_ _ | refine below_drewN ?_ | refine Below.drew ?_ | (simp;done) | (simp;omega)) (Below.mono hb3 (by first | omega | (simp;done) | (simp;omega)));have hs3:=hb3q.size;have d0:=cell_kept a0 hb3q;have d1:=cell_kept a1 hb3q)
                      | (go_at_call 118;(with_reducible refine (CL.out _ _ _ (hg3.keep (by repeat' first | exact Below.refl _ _ | assumption | refine Below.setCell ?_ ?_ _ | refine Below.alloc ?_ ?_ _ | refine below_drewN ?_ | refine Below.drew ?_ | (simp;done) | (simp;omega))) (keep_on HB.out.big hb3q (by repeat' first | exact Below.refl _ _ | assumption | refine Below.setCell ?_ ?_ _ | refine Below.alloc ?_ ?_ _ | refine below_drewN ?_ | refine Below.drew ?_ | (simp;done) | (simp;omega)))).mono ?_);rintro e w5 ⟨v5,rfl,hg5,hb5⟩;have HG5:=Lib.hid hg5;obtain ⟨t5,p5,k5,c5,t5',p5',k5',c5',rfl,_,_⟩:=hg5;have hb5q : Below wr.heap.size wr w5:=hb3q.trans (Below.trans (a:=w3) (B:=wr.heap.size) (by repeat' first | exact Below.refl _ _ | assumption | refine Below.setCell ?_ ?_ _ | refine Below.alloc ?_ ?_ _ | refine below_drewN ?_ | refine Below.drew ?_ | (simp;done) | (simp;omega)) (Below.mono hb5 (by first | omega | (simp;done) | (simp;omega))));have hs5:=hb5q.size;have f0:=cell_kept a0 hb5q;have f1:=cell_kept a1 hb5q)
                      | (go_at_call 101;(with_reducible refine (CWr.out _ _ (HG5.out.keep (by repeat' first | exact Below.refl _ _ | assumption | refine Below.setCell ?_ ?_ _ | refine Below.alloc ?_ ?_ _ | refine below_drewN ?_ | refine Below.drew ?_ | (simp;done) | (simp;omega)))).mono ?_);rintro e w6 ⟨rfl,hb6⟩;have hb6q : Below wr.heap.size wr w6:=hb5q.trans (Below.trans (a:=w5) (B:=wr.heap.size) (by repeat' first | exact Below.refl _ _ | assumption | refine Below.setCell ?_ ?_ _ | refine Below.alloc ?_ ?_ _ | refine below_drewN ?_ | refine Below.drew ?_ | (simp;done) | (simp;omega)) (Below.mono hb6 (by first | omega | (simp;done) | (simp;omega))));have i0:=cell_kept a0 hb6q;have i1':=cell_kept a1 hb6q))
                  all_goals go_wp2_with fail
                  all_goals go_ret2
                  all_goals exact ⟨by rw [HRT.out];rfl,HLW.out.trans (hb6q.mono HLW.out.size)⟩
end
section
open Go.RowKit
theorem str_cells3 (w : World) (a b c : ByteArray) (t : TypeId) (i : Nat) (h : i < [a,b,c].length) : (w.alloc (.cells #[.string a,.string b,.string c] t)).cell? ⟨w.heap.size,i,none⟩ = some (.string [a,b,c][i]):=by
  match i,h with
  | 0,_=>simp
  | 1,_=>simp
  | 2,_=>simp
set_option maxHeartbeats 4000000 in
set_option maxRecDepth 20000 in
theorem parts_walk (a p q s2 s3 r3 s4 s5 : ByteArray) (E1 E2 E3 E4 E5 : Int)
    (A10 : ∀ w,Gl w->Calls Tryz.prog 10 #[] w fun e w'=>e = .returned (.bool true)/\Below w.heap.size w w')
    (A11 : ∀ (W : World) (g c : Nat),(∀ i (h : i < [a,p,q].length),W.cell? ⟨g,i,none⟩ = some (.string [a,p,q][i]))->Calls Tryz.prog 11 #[.slice (some ⟨g,0,none⟩) 3 c] W fun e w'=>e = .returned (.bool false)/\w' = W)
    (A45 : ∀ w,Gl w->Calls Tryz.prog 45 #[.string a] w fun e w'=>e = .returned (.int .i64 E1)/\Below w.heap.size w w')
    (A46 : ∀ w,Calls Tryz.prog 46 #[.string a] w fun e w'=>e = .returned (.int .i64 E1)/\Below w.heap.size w w')
    (A47 : ∀ w,Gl w->Calls Tryz.prog 47 #[.string p,.string q] w fun e w'=>e = .returned (.tuple #[.string s2,.int .i64 E2])/\Below w.heap.size w w')
    (A48 : ∀ w,Calls Tryz.prog 48 #[.string p,.string q] w fun e w'=>e = .returned (.tuple #[.string s2,.int .i64 E2])/\Below w.heap.size w w')
    (A49 : ∀ w,Gl w->Calls Tryz.prog 49 #[.string a] w fun e w'=>e = .returned (.tuple #[.string s3,.string r3,.int .i64 E3])/\Below w.heap.size w w')
    (A50 : ∀ w,Calls Tryz.prog 50 #[.string a] w fun e w'=>e = .returned (.tuple #[.string s3,.string r3,.int .i64 E3])/\Below w.heap.size w w')
    (A51 : ∀ w,Gl w->Calls Tryz.prog 51 #[.string a] w fun e w'=>e = .returned (.tuple #[.string s4,.int .i64 E4])/\Below w.heap.size w w')
    (A52 : ∀ w,Calls Tryz.prog 52 #[.string a] w fun e w'=>e = .returned (.tuple #[.string s4,.int .i64 E4])/\Below w.heap.size w w')
    (A53 : ∀ w,Gl w->Calls Tryz.prog 53 #[.string a] w fun e w'=>e = .returned (.tuple #[.string s5,.int .i64 E5])/\Below w.heap.size w w')
    (A54 : ∀ w,Calls Tryz.prog 54 #[.string a] w fun e w'=>e = .returned (.tuple #[.string s5,.int .i64 E5])/\Below w.heap.size w w')
    (w : World) (hg : Gl w) : Calls Tryz.prog 5 #[.string a,.string p,.string q] w fun e w'=>e = .returned (.bool true)/\Below w.heap.size w w':=by
  have D10:=Lib.hid A10;clear A10
  have D11:=Lib.hid A11;clear A11
  have D45:=Lib.hid A45;clear A45
  have D46:=Lib.hid A46;clear A46
  have D47:=Lib.hid A47;clear A47
  have D48:=Lib.hid A48;clear A48
  have D49:=Lib.hid A49;clear A49
  have D50:=Lib.hid A50;clear A50
  have D51:=Lib.hid A51;clear A51
  have D52:=Lib.hid A52;clear A52
  have D53:=Lib.hid A53;clear A53
  have D54:=Lib.hid A54;clear A54
  have Bo:=Lib.hid both_any
  have G0:=Lib.hid hg
  have B0:=Lib.hid (Below.refl w.heap.size w);clear hg
  go_enter Tryz.func5,Tryz.ntmps5
  go_wp2_with (first
    | (go_at_call 10;(with_reducible refine (D10.out _ G0.out).mono ?_);rintro e w1 ⟨rfl,hb⟩;have B1:=Lib.hid (B0.out.trans (hb.mono B0.out.size));have G1:=Lib.hid (G0.out.keep hb);clear hb B0 G0)
    | (go_at_call 11;(with_reducible refine (D11.out _ _ _ (str_cells3 _ _ _ _ _)).mono ?_);rintro e w2 ⟨rfl,hw⟩;have B2 : Hid (Below w.heap.size w w2):=Lib.hid (by rw [hw];exact B1.out.alloc B1.out.size _);have G2 : Hid (Gl w2):=Lib.hid (by rw [hw];exact G1.out.keep (by repeat' first | exact Below.refl _ _ | assumption | refine Below.setCell ?_ ?_ _ | refine Below.alloc ?_ ?_ _ | refine below_drewN ?_ | refine Below.drew ?_ | (simp;done) | (simp;omega)));clear hw B1 G1)
    | (go_at_call 45;(with_reducible refine (D45.out _ G2.out).mono ?_);rintro e w3 ⟨rfl,hb⟩;have B3:=Lib.hid (B2.out.trans (hb.mono B2.out.size));have G3:=Lib.hid (G2.out.keep hb);clear hb B2 G2)
    | (go_at_call 46;(with_reducible refine (D46.out _).mono ?_);rintro e w4 ⟨rfl,hb⟩;have B4:=Lib.hid (B3.out.trans (hb.mono B3.out.size));have G4:=Lib.hid (G3.out.keep hb);clear hb B3 G3)
    | (go_at_call 47;(with_reducible refine (D47.out _ G4.out).mono ?_);rintro e w5 ⟨rfl,hb⟩;have B5:=Lib.hid (B4.out.trans (hb.mono B4.out.size));have G5:=Lib.hid (G4.out.keep hb);clear hb B4 G4)
    | (go_at_call 48;(with_reducible refine (D48.out _).mono ?_);rintro e w6 ⟨rfl,hb⟩;have B6:=Lib.hid (B5.out.trans (hb.mono B5.out.size));have G6:=Lib.hid (G5.out.keep hb);clear hb B5 G5)
    | (go_at_call 20;(with_reducible refine (Bo.out s2 E2 _).mono ?_);rintro e w7 ⟨rfl,hw⟩;have B7 : Hid (Below w.heap.size w w7):=Lib.hid (by rw [hw];exact B6.out);have G7 : Hid (Gl w7):=Lib.hid (by rw [hw];exact G6.out);clear hw B6 G6)
    | (go_at_call 49;(with_reducible refine (D49.out _ G7.out).mono ?_);rintro e w8 ⟨rfl,hb⟩;have B8:=Lib.hid (B7.out.trans (hb.mono B7.out.size));have G8:=Lib.hid (G7.out.keep hb);clear hb B7 G7)
    | (go_at_call 50;(with_reducible refine (D50.out _).mono ?_);rintro e w9 ⟨rfl,hb⟩;have B9:=Lib.hid (B8.out.trans (hb.mono B8.out.size));have G9:=Lib.hid (G8.out.keep hb);clear hb B8 G8)
    | (go_at_call 20;(with_reducible refine (Bo.out r3 E3 _).mono ?_);rintro e w10 ⟨rfl,hw⟩;have B10 : Hid (Below w.heap.size w w10):=Lib.hid (by rw [hw];exact B9.out);have G10 : Hid (Gl w10):=Lib.hid (by rw [hw];exact G9.out);clear hw B9 G9)
    | (go_at_call 51;(with_reducible refine (D51.out _ G10.out).mono ?_);rintro e w11 ⟨rfl,hb⟩;have B11:=Lib.hid (B10.out.trans (hb.mono B10.out.size));have G11:=Lib.hid (G10.out.keep hb);clear hb B10 G10)
    | (go_at_call 52;(with_reducible refine (D52.out _).mono ?_);rintro e w12 ⟨rfl,hb⟩;have B12:=Lib.hid (B11.out.trans (hb.mono B11.out.size));have G12:=Lib.hid (G11.out.keep hb);clear hb B11 G11)
    | (go_at_call 20;(with_reducible refine (Bo.out s4 E4 _).mono ?_);rintro e w13 ⟨rfl,hw⟩;have B13 : Hid (Below w.heap.size w w13):=Lib.hid (by rw [hw];exact B12.out);have G13 : Hid (Gl w13):=Lib.hid (by rw [hw];exact G12.out);clear hw B12 G12)
    | (go_at_call 53;(with_reducible refine (D53.out _ G13.out).mono ?_);rintro e w14 ⟨rfl,hb⟩;have B14:=Lib.hid (B13.out.trans (hb.mono B13.out.size));have G14:=Lib.hid (G13.out.keep hb);clear hb B13 G13)
    | (go_at_call 54;(with_reducible refine (D54.out _).mono ?_);rintro e w15 ⟨rfl,hb⟩;have B15:=Lib.hid (B14.out.trans (hb.mono B14.out.size));have G15:=Lib.hid (G14.out.keep hb);clear hb B14 G14)
    | (go_at_call 20;(with_reducible refine (Bo.out s5 E5 _).mono ?_);rintro e w16 ⟨rfl,hw⟩;have B16 : Hid (Below w.heap.size w w16):=Lib.hid (by rw [hw];exact B15.out);have G16 : Hid (Gl w16):=Lib.hid (by rw [hw];exact G15.out);clear hw B15 G15))
  go_ret
  exact ⟨rfl,B16.out⟩
set_option maxHeartbeats 2000000 in
set_option maxRecDepth 20000 in
theorem parts_long (a p q : ByteArray)
    (A10 : ∀ w,Gl w->Calls Tryz.prog 10 #[] w fun e w'=>e = .returned (.bool true)/\Below w.heap.size w w')
    (A11 : ∀ (W : World) (g c : Nat),(∀ i (h : i < [a,p,q].length),W.cell? ⟨g,i,none⟩ = some (.string [a,p,q][i]))->Calls Tryz.prog 11 #[.slice (some ⟨g,0,none⟩) 3 c] W fun e w'=>e = .returned (.bool true)/\w' = W)
    (w : World) (hg : Gl w) : Calls Tryz.prog 5 #[.string a,.string p,.string q] w fun e w'=>e = .returned (.bool true)/\Below w.heap.size w w':=by
  have D10:=Lib.hid A10;clear A10
  have D11:=Lib.hid A11;clear A11
  have G0:=Lib.hid hg
  have B0:=Lib.hid (Below.refl w.heap.size w);clear hg
  go_enter Tryz.func5,Tryz.ntmps5
  go_wp2_with (first
    | (go_at_call 10;(with_reducible refine (D10.out _ G0.out).mono ?_);rintro e w1 ⟨rfl,hb⟩;have B1:=Lib.hid (B0.out.trans (hb.mono B0.out.size));have G1:=Lib.hid (G0.out.keep hb);clear hb B0 G0)
    | (go_at_call 11;(with_reducible refine (D11.out _ _ _ (str_cells3 _ _ _ _ _)).mono ?_);rintro e w2 ⟨rfl,hw⟩;have B2 : Hid (Below w.heap.size w w2):=Lib.hid (by rw [hw];exact B1.out.alloc B1.out.size _);have G2 : Hid (Gl w2):=Lib.hid (by rw [hw];exact G1.out.keep (by repeat' first | exact Below.refl _ _ | assumption | refine Below.setCell ?_ ?_ _ | refine Below.alloc ?_ ?_ _ | refine below_drewN ?_ | refine Below.drew ?_ | (simp;done) | (simp;omega)));clear hw B1 G1)
    | (go_at_call 10;(with_reducible refine (D10.out _ G2.out).mono ?_);rintro e w3 ⟨rfl,hb⟩;have B3:=Lib.hid (B2.out.trans (hb.mono B2.out.size));clear hb B2 G2))
  go_ret
  exact ⟨rfl,B3.out⟩
theorem realV_both (x y : ByteArray) (sx : x.size <= 300) (sy : y.size <= 300) : ∃ s E,(∀ w,Gl w->Calls Tryz.prog 47 #[.string x,.string y] w fun e w'=>e = .returned (.tuple #[.string s,.int .i64 E])/\Below w.heap.size w w')/\(∀ w,Calls Tryz.prog 48 #[.string x,.string y] w fun e w'=>e = .returned (.tuple #[.string s,.int .i64 E])/\Below w.heap.size w w'):=by
  by_cases h : ckL2 x y = 0
  · obtain ⟨hx,hy⟩:=ckL2_zero h
    have e1 : ckL x.data.toList = 0:=hx
    have e2 : ckL y.data.toList = 0:=hy
    by_cases h0 : vz y = 0
    · have hd : ckD2 x y = 30:=by unfold ckD2;rw [e1,e2,zero_text hy,decide_eq_true h0];rfl
      refine ⟨_,_,fun w hg=>real_zero x y w hg hx hy (by have:=vz_abs y;omega),fun w=>?_⟩
      have:=refReal_err x y sx sy (by rw [hd];decide) w
      rwa [hd] at this
    · exact ⟨_,_,fun w hg=>real_ok x y w hg hx hy (by have:=vz_abs y;omega),fun w=>refReal_ok x y sx sy hx hy h0 w⟩
  · have hd : ckD2 x y = ckL2 x y:=by
      unfold ckD2 ckL2 at *
      unfold firstE at *
      by_cases h1 : ckL x.data.toList = 0
      · rw [if_pos h1] at h ⊢
        rw [if_pos h1]
        unfold firstE at *
        by_cases h2 : ckL y.data.toList = 0
        · rw [if_pos h2] at h;exact absurd rfl h
        · rw [if_neg h2,if_neg h2]
      · rw [if_neg h1,if_neg h1]
    refine ⟨_,_,fun w hg=>real_err x y w hg h,fun w=>?_⟩
    have:=refReal_err x y sx sy (by rw [hd];exact h) w
    rwa [hd] at this
theorem partsV_both (x : ByteArray) (sx : x.size <= 300) : ∃ s r E,(∀ w,Gl w->Calls Tryz.prog 49 #[.string x] w fun e w'=>e = .returned (.tuple #[.string s,.string r,.int .i64 E])/\Below w.heap.size w w')/\(∀ w,Calls Tryz.prog 50 #[.string x] w fun e w'=>e = .returned (.tuple #[.string s,.string r,.int .i64 E])/\Below w.heap.size w w'):=by
  by_cases h : ckR x.data.toList = 0
  · exact ⟨_,_,_,fun w hg=>parts_ok x (by omega) w hg h,fun w=>refParts_ok x sx h w⟩
  · exact ⟨_,_,_,fun w hg=>parts_err x (by omega) w hg h,fun w=>refParts_err x sx h w⟩
theorem decV_both (x : ByteArray) (sx : x.size <= 300) : ∃ s E,(∀ w,Gl w->Calls Tryz.prog 51 #[.string x] w fun e w'=>e = .returned (.tuple #[.string s,.int .i64 E])/\Below w.heap.size w w')/\(∀ w,Calls Tryz.prog 52 #[.string x] w fun e w'=>e = .returned (.tuple #[.string s,.int .i64 E])/\Below w.heap.size w w'):=by
  have C:=fun w=>refFromDecimal_any x x.size rfl sx w
  by_cases h : ckD x.data.toList = 0
  · simp only [h,ne_eq,not_true_eq_false,if_false] at C
    exact ⟨_,_,fun w hg=>fromDecimal_ok x (by omega) w hg h,C⟩
  · rw [if_pos h] at C
    exact ⟨_,_,fun w hg=>fromDecimal_err x (by omega) w hg h,C⟩
theorem floorV_both (x : ByteArray) (sx : x.size <= 300) : ∃ s E,(∀ w,Gl w->Calls Tryz.prog 53 #[.string x] w fun e w'=>e = .returned (.tuple #[.string s,.int .i64 E])/\Below w.heap.size w w')/\(∀ w,Calls Tryz.prog 54 #[.string x] w fun e w'=>e = .returned (.tuple #[.string s,.int .i64 E])/\Below w.heap.size w w'):=by
  by_cases h : ckR x.data.toList = 0
  · exact ⟨_,_,fun w hg=>floor_ok x (by omega) w hg h,fun w=>refFloor_ok x sx h w⟩
  · exact ⟨_,_,fun w hg=>floor_err x (by omega) w hg h,fun w=>refFloor_err x sx h w⟩
theorem parts_any (a p q : ByteArray) (w : World) (hg : Gl w) : Calls Tryz.prog 5 #[.string a,.string p,.string q] w fun e w'=>e = .returned (.bool true)/\Below w.heap.size w w':=by
  have L : ∀ (W : World) (g c : Nat),(∀ i (h : i < [a,p,q].length),W.cell? ⟨g,i,none⟩ = some (.string [a,p,q][i]))->Calls Tryz.prog 11 #[.slice (some ⟨g,0,none⟩) 3 c] W fun e w'=>e = .returned (.bool (longL [a,p,q]))/\w' = W:=fun W g c h=>long_any g 3 c [a,p,q] rfl (by omega) W h
  by_cases hl : longL [a,p,q] = true
  · rw [hl] at L
    exact parts_long a p q awake_any L w hg
  · rw [Bool.not_eq_true] at hl
    rw [hl] at L
    have hs : a.size <= 300/\p.size <= 300/\q.size <= 300:=by
      have:=hl
      unfold longL at this
      simp only [List.any_cons,List.any_nil,Bool.or_false,Bool.or_eq_false_iff,decide_eq_false_iff_not] at this
      omega
    obtain ⟨sa,sp,sq⟩:=hs
    obtain ⟨s2,E2,f2,g2⟩:=realV_both p q sp sq
    obtain ⟨s3,r3,E3,f3,g3⟩:=partsV_both a sa
    obtain ⟨s4,E4,f4,g4⟩:=decV_both a sa
    obtain ⟨s5,E5,f5,g5⟩:=floorV_both a sa
    exact parts_walk a p q s2 s3 r3 s4 s5 (ckR a.data.toList) E2 E3 E4 E5 awake_any L (fun w hg=>checkReal_any a (by omega) w hg) (fun w=>refCheckReal_any a sa w) f2 g2 f3 g3 f4 g4 f5 g5 w hg
end
end Go.Proofs.YtpbegoflpfdajaaGreatDoor
/- WHAT IS PROVED: contracts of functions of the numbers package and laws for them, used by the last text of this claim. CONDITIONS: stated at each theorem. -/
import Derived.Test.YtpbegoflpfdajaaGreatDoorN39
import Derived.Test.YtpbegoflpfdajaaGreatDoorN11
namespace Go.Proofs.YtpbegoflpfdajaaGreatDoor
section
open Go.RowKit
open Qd (lims)
theorem get_of {T : ByteArray} {D : List UInt8} (h : T.data.toList = D) (i : Nat) (h1 : i < T.size) (h2 : i < D.length) : T[i]'h1 = D[i]:=by
  subst h
  simp;rfl
set_option maxHeartbeats 4000000 in
set_option maxRecDepth 100000 in
theorem refRead_p (s : ByteArray) (D : List UInt8) (hs : s.data.toList = D) (hm : D.head? ≠ some 45) (hd : ∀ c ∈ D,isDig c = true) (h0 : 0 < D.length) (hL : D.length <= 4000) (w : World) :
    Calls Tryz.prog 70 #[.string s] w fun e w'=>∃ v,e = .returned v/\BigAt w' v ((valL D : Int))/\Below w.heap.size w w':=by
  obtain ⟨i0,hi,hz0,hz1,hz2⟩:=info_parts Tryz.info3
  obtain ⟨⟨k00,k01⟩,⟨k10,k11⟩,kf0,kf1⟩:=cells2 w (.bool false) (.slice none 0 0) (.bool false) (.slice none 0 0) 74 74
  have hlim:=Lib.hid (fun k e lo he hlo=>lim_digits D hd k e lo he hlo)
  have htop:=Lib.hid (fun k h=>valL_top D hd k h)
  have hsml:=Lib.hid (fun lo i h hi=>valL_small D hd lo i h hi)
  have hstp:=Lib.hid (fun lo i h hi=>valL_step D lo i h hi)
  have Hd:=Lib.hid hd
  obtain ⟨L,hLL⟩ : ∃ L,D.length = L:=⟨_,rfl⟩
  have hsz : s.size = L:=by have:=congrArg List.length hs;simp at this;omega
  have hx : s.data.toList = D:=hs
  have hp0 : 0 < s.size:=by omega
  obtain ⟨c0,hc0⟩ : ∃ c,(s[0]'hp0).toNat = c:=⟨_,rfl⟩
  have h45 : ((c0 : Int) == 45) = false:=by
    obtain ⟨t,ht⟩:=at0 hp0
    rw [hs] at ht
    have hne : s[0]'hp0 ≠ 45:=by intro e;rw [e] at ht;exact hm (by rw [ht];rfl)
    have:=u8_ne (n:=45) (by omega) hne
    simp;omega
  have hget : ∀ i (h : i < s.size) (h2 : i < D.length),(s[i]'h) = D[i]:=fun i h h2=>get_of hx i h h2
  have Hget:=Lib.hid hget
  have Hx:=Lib.hid hx
  have HL:=Lib.hid hLL
  have hL2 : L <= 4000:=by omega
  have h02 : 0 < L:=by omega
  clear hd hget hx hs hL h0 hLL hm
  go_enter Tryz.func70,Tryz.ntmps70
  go_wp2
  go_loopw [4] (fun i wr=>∃ k : Nat,∃ v,∃ t : Int,i = .int .i64 t/\t = (L : Int) - 4 * (k : Int)/\k <= 1000/\Bld w (w.heap.size + 1) w.heap.size false v (w.heap.size + 1 + 1) k (lims (valL D) k) wr) (fun i _=>(intOf i).toNat)
  case atStart =>
    exact ⟨0,_,L,rfl,by simp,by omega,{ c0:=k10,c1:=k11,f0:=kf0,f1:=kf1,r0:=k00,r1:=k01,g0:=by go_simp,g1:=by go_simp,row:=World.ownsRow_nil _ _ _ _,low:=(by repeat' first | exact Below.refl _ _ | assumption | refine Below.setCell ?_ ?_ _ | refine Below.alloc ?_ ?_ _ | refine below_drewN ?_ | refine Below.drew ?_ | (simp;done) | (simp;omega)),size:=by simp }⟩
  case round =>
    obtain ⟨k,v,t,rfl,ht,hk,hB⟩:=hrel
    have HB:=Lib.hid hB
    clear hB
    by_cases hpos : 0 < t
    · obtain ⟨e,he⟩ : ∃ e : Nat,t = (e : Int):=⟨t.toNat,by omega⟩
      subst he
      have hek : e + 4 * k = L:=by omega
      have Ht:=Lib.hid ht
      clear ht
      obtain ⟨lo,hlo⟩ : ∃ lo,e - 4 = lo:=⟨_,rfl⟩
      have hmx : max (0 : Int) ((e : Int) - 4) = (lo : Int):=by omega
      have d0 : decide ((0 : Int) < (e : Int)) = true:=by simp;omega
      obtain ⟨c0',c1,f0,f1,r0,r1,g0,g1,row,low,hsw⟩:=HB.out
      have Hrow:=Lib.hid row
      have n1:=Lib.hid (row_other row (b:=w.heap.size + 1) (by omega))
      have hszw : w.heap.size + 1 < wr.heap.size:=by omega
      have hl:=hlim.out k e lo (by rw [HL.out];omega) hlo.symm
      have hls:=Qd.lims_succ (valL D) k
      rw [hl] at hls
      have HLS:=Lib.hid hls
      clear hl hls row low
      have Hlo:=Lib.hid hlo
      have hle : lo <= e/\e <= lo + 4:=by omega
      obtain ⟨hle1,hle2⟩:=hle
      clear hlo
      go_wp2
      go_loopw [5,6] (fun vl vi w2=>∃ i : Nat,lo <= i/\i <= e/\vi = .int .i64 i/\vl = .int .i64 (valL ((D.take i).drop lo) : Nat)/\w2 = wr) (fun _ vi _=>e - (intOf vi).toNat)
      case atStart=>exact ⟨lo,Nat.le_refl _,hle1,by first | rfl | (rw [hmx]),by rw [List.drop_of_length_le (by simp;omega)];rfl,rfl⟩
      case round =>
        obtain ⟨i,hi1,hi2,rfl,rfl,rfl⟩:=hrel
        by_cases hie : i < e
        · have hiL : i < L:=by omega
          have hp2 : i < s.size:=by rw [hsz];exact hiL
          have hstep:=hstp.out lo i hi1 (by rw [HL.out];exact hiL)
          have hsm:=hsml.out lo i (by omega) (by rw [HL.out];omega)
          have hsm2:=hsml.out lo (i + 1) (by omega) (by rw [HL.out];omega)
          have hdi:=Hd.out (D[i]'(by rw [HL.out];exact hiL)) (List.getElem_mem (by rw [HL.out];exact hiL))
          simp only [isDig,decide_eq_true_eq] at hdi
          have hgi:=Hget.out i hp2 (by rw [HL.out];exact hiL)
          rw [<- hgi] at hdi hstep
          obtain ⟨c,hc⟩ : ∃ c,(s[i]'hp2).toNat = c:=⟨_,rfl⟩
          rw [hc] at hdi hstep
          obtain ⟨hd1,hd2⟩:=hdi
          obtain ⟨x,hx0⟩ : ∃ x,valL ((D.take i).drop lo) = x:=⟨_,rfl⟩
          rw [hx0] at hstep hsm ⊢
          rw [hstep] at hsm2
          have Hst:=Lib.hid hstep
          clear hstep hgi hx0
          have d1 : decide ((i : Int) < (e : Int)) = true:=by simp;omega
          go_wp2
          go_roundw
          case rel=>exact ⟨i + 1,by omega,by omega,by go_num,by rw [Hst.out];congr 1;omega,by first | rfl | trivial⟩
          case measure=>simp [intOf];omega
        · have hie2 : i = e:=by omega
          subst hie2
          have d1 : decide ((i : Int) < (i : Int)) = false:=by simp
          have hsm:=hsml.out lo i (by omega) (by rw [HL.out];omega)
          obtain ⟨x,hx0⟩ : ∃ x,valL ((D.take i).drop lo) = x:=⟨_,rfl⟩
          rw [hx0] at HLS hsm ⊢
          clear hx0
          go_wp2_with (at_builtin;refine wpList_append_own _ rfl _ _ 72 rfl (w.heap.size + 1 + 1) 3 i0 (.int .i64 0) 1 8 Tryz.underlying72 hi hz0 hz1 hz2 rfl (by decide) _ _ _ rfl (Hrow.out.alloc _) ⟨wr.heap.size,0,none⟩ 1 1 [.int .i64 (x : Int)] rfl rfl (one_new1 wr _ _) (by simp [Value.oneCell']) (by unfold maxLen;omega) (by omega) (by simp;omega) ?_;intro v' w3 hown' hgrow _;obtain ⟨g',cap',rfl⟩:=ownsRow_succ hown';have HN:=Lib.hid (And.intro hown' hgrow);have e1:=grown_cell hgrow (alloc_cell c1 hszw) n1.out;have e2:=grown_frozen hgrow (alloc_frozen f1 hszw) (by simp;omega) n1.out;clear hown' hgrow)
          have hmore:=HB.out.more x rfl HN.out.1 HN.out.2 (by omega) (by omega) (Nat.le_refl _)
          rw [<- HLS.out] at hmore
          have HM:=Lib.hid hmore
          clear hmore e1 e2
          go_wp2
          go_roundw
          case rel=>exact ⟨k + 1,_,(i : Int) - 4,by first | rfl | go_num,by have:=Ht.out;simp;omega,by omega,HM.out⟩
          case measure=>simp [intOf];omega
    · have d0 : decide (0 < t) = false:=by simp;omega
      have hV:=htop.out k (by rw [HL.out];omega)
      obtain ⟨p,c,rfl,_,_⟩:=(mg_of_row HB.out.row).parts
      obtain ⟨c0',c1,f0,f1,r0,r1,g0,g1,row,low,hsw⟩:=HB.out
      have ct:=refTrim_any false _ (valL D) k (by omega) hV wr (mg_of_row row)
      have CT:=Lib.hid ct
      have hlow:=low
      have hls:=low.size
      clear row ct hV
      go_wp2_with (go_at_call 144;(with_reducible refine (CT.out).mono ?_);rintro e w2 ⟨v,rfl,hm2,hb2⟩;obtain ⟨p3,c3,rfl,_,_⟩:=hm2.parts;have l0:=cell_kept r0 hb2;have l1:=cell_kept r1 hb2;have lf0:=frozen_kept g0 hb2 (by simp;omega);have lf1:=frozen_kept g1 hb2 (by simp;omega);have HM2:=Lib.hid hm2;have HB2:=Lib.hid (low.trans (hb2.mono low.size));clear hm2 hb2)
      refine ret74 Tryz.results70 _ rfl (.bool (false && !decide (valL D = 0))) (.slice p3 (Qd.lsz (valL D)) c3) (by go_simp) (by go_simp) rfl ?_
      exact ⟨_,rfl,⟨_,by rw [show decide (((valL D : Int)) < 0) = (false && !decide (valL D = 0)) from (dec_of (by simp)).symm],Mg.set2 (l:=lims ((valL D : Int)).natAbs (Qd.lsz ((valL D : Int)).natAbs)) (by rw [show ((valL D : Int)).natAbs = valL D by omega];exact HM2.out) l0 _ _⟩,by have hlw:=HB2.out;exact (by repeat' first | exact Below.refl _ _ | assumption | refine Below.setCell ?_ ?_ _ | refine Below.alloc ?_ ?_ _ | refine below_drewN ?_ | refine Below.drew ?_ | (simp;done) | (simp;omega))⟩
set_option maxHeartbeats 4000000 in
set_option maxRecDepth 100000 in
theorem refRead_m (s : ByteArray) (D : List UInt8) (hs : s.data.toList = 45 :: D) (hd : ∀ c ∈ D,isDig c = true) (h0 : 0 < D.length) (hL : D.length <= 4000) (w : World) :
    Calls Tryz.prog 70 #[.string s] w fun e w'=>∃ v,e = .returned v/\BigAt w' v (-(valL D : Int))/\Below w.heap.size w w':=by
  obtain ⟨i0,hi,hz0,hz1,hz2⟩:=info_parts Tryz.info3
  obtain ⟨⟨k00,k01⟩,⟨k10,k11⟩,kf0,kf1⟩:=cells2 w (.bool false) (.slice none 0 0) (.bool true) (.slice none 0 0) 74 74
  have hlim:=Lib.hid (fun k e lo he hlo=>lim_digits D hd k e lo he hlo)
  have htop:=Lib.hid (fun k h=>valL_top D hd k h)
  have hsml:=Lib.hid (fun lo i h hi=>valL_small D hd lo i h hi)
  have hstp:=Lib.hid (fun lo i h hi=>valL_step D lo i h hi)
  have Hd:=Lib.hid hd
  obtain ⟨L,hLL⟩ : ∃ L,D.length = L:=⟨_,rfl⟩
  have hss : s.size = D.length + 1:=by have:=congrArg List.length hs;simpa using this
  have hx : (s.extract 1 s.size).data.toList = D:=by simp [hs,hss]
  have hsz : (s.extract 1 s.size).size = L:=by rw [<- hLL];have:=congrArg List.length hx;simpa using this
  have hp0 : 0 < s.size:=by omega
  have hb0 : (s[0]'hp0).toNat = 45:=by
    obtain ⟨t,ht⟩:=at0 hp0
    rw [hs] at ht
    rw [<- (List.cons.inj ht).1];rfl
  have h45' : s[0]'hp0 = 45:=UInt8.toNat_inj.1 (by rw [hb0];rfl)
  have h1s : 1 <= s.size:=by omega
  have hget : ∀ i (h : i < (s.extract 1 s.size).size) (h2 : i < D.length),((s.extract 1 s.size)[i]'h) = D[i]:=fun i h h2=>get_of hx i h h2
  have Hget:=Lib.hid hget
  have Hx:=Lib.hid hx
  have HL:=Lib.hid hLL
  have hL2 : L <= 4000:=by omega
  have h02 : 0 < L:=by omega
  clear hd hget hx hs hL h0 hLL hss
  go_enter Tryz.func70,Tryz.ntmps70
  go_wp2
  go_loopw [4] (fun i wr=>∃ k : Nat,∃ v,∃ t : Int,i = .int .i64 t/\t = (L : Int) - 4 * (k : Int)/\k <= 1000/\Bld w (w.heap.size + 1) w.heap.size true v (w.heap.size + 1 + 1) k (lims (valL D) k) wr) (fun i _=>(intOf i).toNat)
  case atStart =>
    exact ⟨0,_,L,rfl,by simp,by omega,{ c0:=k10,c1:=k11,f0:=kf0,f1:=kf1,r0:=k00,r1:=k01,g0:=by go_simp,g1:=by go_simp,row:=World.ownsRow_nil _ _ _ _,low:=(by repeat' first | exact Below.refl _ _ | assumption | refine Below.setCell ?_ ?_ _ | refine Below.alloc ?_ ?_ _ | refine below_drewN ?_ | refine Below.drew ?_ | (simp;done) | (simp;omega)),size:=by simp }⟩
  case round =>
    obtain ⟨k,v,t,rfl,ht,hk,hB⟩:=hrel
    have HB:=Lib.hid hB
    clear hB
    by_cases hpos : 0 < t
    · obtain ⟨e,he⟩ : ∃ e : Nat,t = (e : Int):=⟨t.toNat,by omega⟩
      subst he
      have hek : e + 4 * k = L:=by omega
      have Ht:=Lib.hid ht
      clear ht
      obtain ⟨lo,hlo⟩ : ∃ lo,e - 4 = lo:=⟨_,rfl⟩
      have hmx : max (0 : Int) ((e : Int) - 4) = (lo : Int):=by omega
      have d0 : decide ((0 : Int) < (e : Int)) = true:=by simp;omega
      obtain ⟨c0',c1,f0,f1,r0,r1,g0,g1,row,low,hsw⟩:=HB.out
      have Hrow:=Lib.hid row
      have n1:=Lib.hid (row_other row (b:=w.heap.size + 1) (by omega))
      have hszw : w.heap.size + 1 < wr.heap.size:=by omega
      have hl:=hlim.out k e lo (by rw [HL.out];omega) hlo.symm
      have hls:=Qd.lims_succ (valL D) k
      rw [hl] at hls
      have HLS:=Lib.hid hls
      clear hl hls row low
      have Hlo:=Lib.hid hlo
      have hle : lo <= e/\e <= lo + 4:=by omega
      obtain ⟨hle1,hle2⟩:=hle
      clear hlo
      go_wp2
      go_loopw [5,6] (fun vl vi w2=>∃ i : Nat,lo <= i/\i <= e/\vi = .int .i64 i/\vl = .int .i64 (valL ((D.take i).drop lo) : Nat)/\w2 = wr) (fun _ vi _=>e - (intOf vi).toNat)
      case atStart=>exact ⟨lo,Nat.le_refl _,hle1,by first | rfl | (rw [hmx]),by rw [List.drop_of_length_le (by simp;omega)];rfl,rfl⟩
      case round =>
        obtain ⟨i,hi1,hi2,rfl,rfl,rfl⟩:=hrel
        by_cases hie : i < e
        · have hiL : i < L:=by omega
          have hp2 : i < (s.extract 1 s.size).size:=by rw [hsz];exact hiL
          have hstep:=hstp.out lo i hi1 (by rw [HL.out];exact hiL)
          have hsm:=hsml.out lo i (by omega) (by rw [HL.out];omega)
          have hsm2:=hsml.out lo (i + 1) (by omega) (by rw [HL.out];omega)
          have hdi:=Hd.out (D[i]'(by rw [HL.out];exact hiL)) (List.getElem_mem (by rw [HL.out];exact hiL))
          simp only [isDig,decide_eq_true_eq] at hdi
          have hgi:=Hget.out i hp2 (by rw [HL.out];exact hiL)
          rw [<- hgi] at hdi hstep
          obtain ⟨c,hc⟩ : ∃ c,((s.extract 1 s.size)[i]'hp2).toNat = c:=⟨_,rfl⟩
          rw [hc] at hdi hstep
          obtain ⟨hd1,hd2⟩:=hdi
          obtain ⟨x,hx0⟩ : ∃ x,valL ((D.take i).drop lo) = x:=⟨_,rfl⟩
          rw [hx0] at hstep hsm ⊢
          rw [hstep] at hsm2
          have Hst:=Lib.hid hstep
          clear hstep hgi hx0
          have d1 : decide ((i : Int) < (e : Int)) = true:=by simp;omega
          go_wp2
          go_roundw
          case rel=>exact ⟨i + 1,by omega,by omega,by go_num,by rw [Hst.out];congr 1;omega,by first | rfl | trivial⟩
          case measure=>simp [intOf];omega
        · have hie2 : i = e:=by omega
          subst hie2
          have d1 : decide ((i : Int) < (i : Int)) = false:=by simp
          have hsm:=hsml.out lo i (by omega) (by rw [HL.out];omega)
          obtain ⟨x,hx0⟩ : ∃ x,valL ((D.take i).drop lo) = x:=⟨_,rfl⟩
          rw [hx0] at HLS hsm ⊢
          clear hx0
          go_wp2_with (at_builtin;refine wpList_append_own _ rfl _ _ 72 rfl (w.heap.size + 1 + 1) 3 i0 (.int .i64 0) 1 8 Tryz.underlying72 hi hz0 hz1 hz2 rfl (by decide) _ _ _ rfl (Hrow.out.alloc _) ⟨wr.heap.size,0,none⟩ 1 1 [.int .i64 (x : Int)] rfl rfl (one_new1 wr _ _) (by simp [Value.oneCell']) (by unfold maxLen;omega) (by omega) (by simp;omega) ?_;intro v' w3 hown' hgrow _;obtain ⟨g',cap',rfl⟩:=ownsRow_succ hown';have HN:=Lib.hid (And.intro hown' hgrow);have e1:=grown_cell hgrow (alloc_cell c1 hszw) n1.out;have e2:=grown_frozen hgrow (alloc_frozen f1 hszw) (by simp;omega) n1.out;clear hown' hgrow)
          have hmore:=HB.out.more x rfl HN.out.1 HN.out.2 (by omega) (by omega) (Nat.le_refl _)
          rw [<- HLS.out] at hmore
          have HM:=Lib.hid hmore
          clear hmore e1 e2
          go_wp2
          go_roundw
          case rel=>exact ⟨k + 1,_,(i : Int) - 4,by first | rfl | go_num,by have:=Ht.out;simp;omega,by omega,HM.out⟩
          case measure=>simp [intOf];omega
    · have d0 : decide (0 < t) = false:=by simp;omega
      have hV:=htop.out k (by rw [HL.out];omega)
      obtain ⟨p,c,rfl,_,_⟩:=(mg_of_row HB.out.row).parts
      obtain ⟨c0',c1,f0,f1,r0,r1,g0,g1,row,low,hsw⟩:=HB.out
      have ct:=refTrim_any true _ (valL D) k (by omega) hV wr (mg_of_row row)
      have CT:=Lib.hid ct
      have hlow:=low
      have hls:=low.size
      clear row ct hV
      go_wp2_with (go_at_call 144;(with_reducible refine (CT.out).mono ?_);rintro e w2 ⟨v,rfl,hm2,hb2⟩;obtain ⟨p3,c3,rfl,_,_⟩:=hm2.parts;have l0:=cell_kept r0 hb2;have l1:=cell_kept r1 hb2;have lf0:=frozen_kept g0 hb2 (by simp;omega);have lf1:=frozen_kept g1 hb2 (by simp;omega);have HM2:=Lib.hid hm2;have HB2:=Lib.hid (low.trans (hb2.mono low.size));clear hm2 hb2)
      refine ret74 Tryz.results70 _ rfl (.bool (true && !decide (valL D = 0))) (.slice p3 (Qd.lsz (valL D)) c3) (by go_simp) (by go_simp) rfl ?_
      exact ⟨_,rfl,⟨_,by rw [show decide ((-(valL D : Int)) < 0) = (true && !decide (valL D = 0)) from (dec_of (by simp;omega)).symm],Mg.set2 (l:=lims (-(valL D : Int)).natAbs (Qd.lsz (-(valL D : Int)).natAbs)) (by rw [show (-(valL D : Int)).natAbs = valL D by omega];exact HM2.out) l0 _ _⟩,by have hlw:=HB2.out;exact (by repeat' first | exact Below.refl _ _ | assumption | refine Below.setCell ?_ ?_ _ | refine Below.alloc ?_ ?_ _ | refine below_drewN ?_ | refine Below.drew ?_ | (simp;done) | (simp;omega))⟩
end
section
open Go.RowKit
open Qd (lims)
open Go.Lib (decDigits nDigits decDigits_length byteCells)
def dg (V j : Nat) : UInt8:=UInt8.ofNat (48 + V / 10 ^ j % 10)
theorem dg_nat (V j : Nat) : (dg V j).toNat = 48 + V / 10 ^ j % 10:=by
  unfold dg
  simp;omega
def dgs (V k : Nat) : List UInt8:=(List.range k).map (dg V)
theorem dgs_length (V k : Nat) : (dgs V k).length = k:=by simp [dgs]
theorem dgs_succ (V k : Nat) : dgs V (k + 1) = dgs V k ++ [dg V k]:=by simp [dgs,List.range_succ]
theorem dgs_get (V k j : Nat) (h : j < (dgs V k).length) : (dgs V k)[j] = dg V j:=by simp [dgs]
theorem dg_up (V j : Nat) : dg V (j + 1) = dg (V / 10) j:=by
  unfold dg
  rw [Nat.pow_succ,Nat.mul_comm,<- Nat.div_div_eq_div_mul]
theorem dgs_cons (V k : Nat) : dgs V (k + 1) = dg V 0 :: dgs (V / 10) k:=by
  unfold dgs
  rw [List.range_succ_eq_map,List.map_cons,List.map_map]
  congr 1
  apply List.map_congr_left
  intro j _
  exact dg_up V j
theorem dec_rev : ∀ (f V : Nat),V <= f->decDigits V = (dgs V (nDigits V)).reverse
  | 0,V,h=>by
    obtain rfl : V = 0:=by omega
    rw [nD_one 0 (by omega),Lib.decDigits_one (by omega)]
    simp [dgs,dg]
  | f + 1,V,h=>by
    by_cases h10 : V < 10
    · rw [nD_one V h10,Lib.decDigits_one h10]
      simp [dgs,dg,Nat.mod_eq_of_lt h10]
    · rw [dec_step V h10,nD_step V h10,dgs_cons,List.reverse_cons,dec_rev f (V / 10) (by omega)]
      congr 1
      simp [dg]
theorem dec_dgs (V : Nat) : decDigits V = (dgs V (nDigits V)).reverse:=dec_rev V V (Nat.le_refl _)
theorem nD_is {V n : Nat} (h1 : V < 10 ^ n) (h0 : 0 < n) (h2 : V / 10 ^ (n - 1) % 10 ≠ 0) : nDigits V = n:=by
  obtain ⟨k,rfl⟩ : ∃ k,n = k + 1:=⟨n - 1,by omega⟩
  apply Nat.le_antisymm (nD_le k V h1)
  apply Nat.lt_of_not_le;intro h
  have:=nD_lt k V (by omega)
  rw [Nat.add_sub_cancel,Nat.div_eq_of_lt this] at h2
  exact h2 rfl
theorem dg_lim (V i k : Nat) (hk : k < 4) : Qd.lim V i / 10 ^ k % 10 = V / 10 ^ (4 * i + k) % 10:=by
  unfold Qd.lim
  rw [bb_ten4,Nat.pow_add,<- Nat.div_div_eq_div_mul]
  generalize V / 10 ^ (4 * i) = x
  show x % 10000 / 10 ^ k % 10 = x / 10 ^ k % 10
  obtain rfl | rfl | rfl | rfl : k = 0 ∨ k = 1 ∨ k = 2 ∨ k = 3:=by omega
  all_goals simp only [Nat.pow_zero,Nat.pow_one,show (10 : Nat) ^ 2 = 100 from rfl,show (10 : Nat) ^ 3 = 1000 from rfl]
  all_goals omega
theorem rev_take_succ (V n r : Nat) (h : r < n) : (dgs V n).reverse.take (r + 1) = (dgs V n).reverse.take r ++ [dg V (n - 1 - r)]:=by
  rw [List.take_succ_eq_append_getElem (by simp [dgs_length];exact h)]
  congr 2
  rw [List.getElem_reverse,dgs_get]
  congr 1
  simp [dgs_length]
end
end Go.Proofs.YtpbegoflpfdajaaGreatDoor
/- WHAT IS PROVED: contracts of functions of the numbers package and laws for them, used by the last text of this claim. CONDITIONS: stated at each theorem. -/
import Derived.Lib.AtoiAllCases
import Derived.Test.YtpbegoflpfdajaaGreatDoorM46
import Derived.Test.YtpbegoflpfdajaaGreatDoorM35
import Derived.Deep.DeepCutAuto
import Derived.Deep.RegionHeld3
namespace Go.Proofs.YtpbegoflpfdajaaGreatDoor
section
open Go.RowKit
open Go.Lib (decDigits nDigits decDigits_length)
theorem fold_ge : ∀ (l : List UInt8) (acc : Nat),acc <= l.foldl (fun v c=>v * 10 + (c.toNat - 48)) acc
  | [],_=>Nat.le_refl _
  | c :: r,acc=>by rw [List.foldl_cons];exact Nat.le_trans (by omega) (fold_ge r _)
end
section
open Go.RowKit
theorem parseM_dig2 : ∀ (l : List UInt8) (acc : Nat),acc < 18446744073709551616->(∀ c ∈ l,isDig c = true)->Lib.parseUintM (2 ^ 64 - 1) acc l = if l.foldl (fun v c=>v * 10 + (c.toNat - 48)) acc < 18446744073709551616 then .ok (l.foldl (fun v c=>v * 10 + (c.toNat - 48)) acc) else .range
  | [],acc,h,_=>by rw [List.foldl_nil,if_pos h];rfl
  | c :: r,acc,h,hd=>by
    have hc:=hd c (by simp)
    simp only [isDig,decide_eq_true_eq] at hc
    have hg:=fold_ge r (acc * 10 + (c.toNat - 48))
    rw [List.foldl_cons,Lib.parseUintM,if_pos hc]
    by_cases h1 : 1844674407370955162 <= acc
    · rw [if_pos h1,if_neg (by omega)]
    · rw [if_neg h1]
      by_cases h2 : 2 ^ 64 - 1 < acc * 10 + (c.toNat - 48)
      · rw [if_pos h2,if_neg (by omega)]
      · rw [if_neg h2]
        exact parseM_dig2 r _ (by omega) (fun x hx=>hd x (by simp [hx]))
theorem cbV_okz {x : ByteArray} {k : Nat} (hk : k <= 64) (h : Okz x) : cbV x.data.toList k = if vz x < 0 ∨ 2 ^ k <= vz x then 3 else 0:=by
  obtain ⟨h1,h2,h3,_⟩:=okz_parts h
  have hs:=vz_sign x
  have ha:=vz_abs x
  have hkp : 2 ^ k <= 18446744073709551616:=Nat.pow_le_pow_right (n:=2) (by omega) hk
  have hk1 : 1 <= 2 ^ k:=Nat.pow_pos (by omega)
  have hcast : (((2 ^ k : Nat) : Int)) = 2 ^ k:=by rw [Int.natCast_pow];rfl
  have hv : valL (noMinus x.data.toList) = intM x.data.toList:=rfl
  have hz:=zero_text h
  have h0 : ckL x.data.toList = 0:=h
  have htl : x.toList = x.data.toList:=toList_data' x
  rw [htl] at hz
  unfold cbV
  rw [if_pos h0]
  clear h0 htl
  generalize x.data.toList = l at *
  rcases noMinus_cases l with ⟨t,ht,hn⟩ | ⟨hh,hn⟩
  · have hp : Lib.parseUintB 64 l = .syntax:=by
      rw [ht]
      unfold Lib.parseUintB
      rw [if_neg (by simp),Lib.parseUintM,if_neg (by decide)]
    rw [hp]
    have hneg : vz x < 0:=by
      have hi : intS l = true:=by
        rw [ht] at hz
        have hne : vz x ≠ 0:=by
          intro e
          rw [decide_eq_true e] at hz
          simp at hz
        unfold intS
        rw [ht] at ha ⊢
        simp only [List.head?_cons,beq_self_eq_true,Bool.true_and,Bool.not_eq_true',decide_eq_false_iff_not]
        omega
      rw [hi] at hs
      exact of_decide_eq_true hs
    rw [if_pos (Or.inl hneg)]
  · rw [hn] at h1 h2 hv
    have hge : 0 <= vz x:=by
      have : intS l = false:=by unfold intS;rw [show (l.head? == some 45) = false by simpa using hh];rfl
      rw [this] at hs
      have:=of_decide_eq_false hs
      omega
    have hp : Lib.parseUintB 64 l = if valL l < 18446744073709551616 then .ok (valL l) else .range:=by
      unfold Lib.parseUintB
      rw [if_neg (by intro e;rw [e] at h1;simp at h1)]
      exact parseM_dig2 l 0 (by omega) h2
    rw [hp]
    by_cases hb : valL l < 18446744073709551616
    · rw [if_pos hb]
      by_cases hc : 2 ^ k - 1 < valL l
      · simp only []
        rw [if_pos hc,if_pos (Or.inr (by omega))]
      · simp only []
        rw [if_neg hc,if_neg (by omega)]
    · rw [if_neg hb]
      simp only []
      rw [if_pos (Or.inr (by omega))]
theorem vz_minus {x : ByteArray} (h : Okz x) {t : List UInt8} (ht : x.data.toList = 45 :: t) : vz x < 0:=by
  have hs:=vz_sign x
  have ha:=vz_abs x
  have hz:=zero_text h
  rw [toList_data' x] at hz
  have hi : intS x.data.toList = true:=by
    have hne : vz x ≠ 0:=by
      intro e
      rw [decide_eq_true e,ht] at hz
      simp at hz
    unfold intS
    rw [show (x.data.toList.head? == some 45) = true by rw [ht];rfl]
    simp only [Bool.true_and,Bool.not_eq_true',decide_eq_false_iff_not]
    omega
  rw [hi] at hs
  exact of_decide_eq_true hs
theorem vz_plus {x : ByteArray} (hh : x.data.toList.head? ≠ some 45) : 0 <= vz x:=by
  have hs:=vz_sign x
  have : intS x.data.toList = false:=by unfold intS;rw [show (x.data.toList.head? == some 45) = false by simpa using hh];rfl
  rw [this] at hs
  have:=of_decide_eq_false hs
  omega
end
section
open Go.RowKit
open Qd (lims)
theorem ckR_split (l : List UInt8) : ckR l = if splB l = false then 1 else if firstE [ckL (upT l),ckL (loT l)] ≠ 0 then firstE [ckL (upT l),ckL (loT l)] else if intS (loT l) = true ∨ intM (loT l) = 0 ∨ Nat.gcd (intM (upT l)) (intM (loT l)) ≠ 1 then 1 else 0:=by
  unfold ckR splB
  cases (Lib.cut l [47]).2.2 <;> cases Lib.contains (loT l) [47] <;> simp
theorem cut_size {l : List UInt8} (h : splB l = true) : (upT l).length <= l.length/\(loT l).length <= l.length:=by
  have hf : (Lib.cut l [47]).2.2 = true:=by unfold splB at h;exact (Bool.and_eq_true _ _ ▸ h).1
  have:=congrArg List.length (cut_found hf)
  simp at this
  omega
theorem str_len (l : List UInt8) : (⟨l.toArray⟩ : ByteArray).size = l.length:=by
  show l.toArray.size = l.length
  simp
theorem one_text (n : Nat) : ((tz (n : Int)).toList == [49]) = decide (n = 1):=by
  rw [toList_data',tz_pos (by omega),show ((n : Nat) : Int).natAbs = n from by omega]
  by_cases h : n = 1
  · subst h
    rw [Lib.decDigits_one (by omega)]
    decide
  · rw [decide_eq_false h]
    have : Lib.decDigits n ≠ [49]:=by
      intro e
      have h2:=valL_decDigits n
      rw [e] at h2
      exact h h2.symm
    simpa using this
set_option maxHeartbeats 4000000 in
set_option maxRecDepth 100000 in
theorem refCkR_in (x p q : ByteArray) (sx : x.size <= 300) (V : Int) (hv : V = if intS q.data.toList = true ∨ intM q.data.toList = 0 ∨ Nat.gcd (intM p.data.toList) (intM q.data.toList) ≠ 1 then 1 else 0) (sp : p.size <= 300) (sq : q.size <= 300) (op : Okz p) (oq : Okz q)
    (S : ∀ W,Calls Tryz.prog 116 #[.string x] W fun e w'=>e = .returned (.tuple #[.string p,.string q,.bool true])/\Below W.heap.size W w') (w : World) :
    Calls Tryz.prog 46 #[.string x] w fun e w'=>e = .returned (.int .i64 V)/\Below w.heap.size w w':=by
  have S:=Lib.hid S
  have Cp:=Lib.hid (fun W=>refCheck_any p (by omega) W)
  have Cq:=Lib.hid (fun W=>refCheck_any q (by omega) W)
  rw [show ckL p.data.toList = 0 from op] at Cp
  rw [show ckL q.data.toList = 0 from oq] at Cq
  have hf2 : firstE [(0 : Int),0] = 0:=rfl
  have CT:=Lib.hid (fun W=>refWhen_any true 1 W)
  rw [show (if true = true then (1 : Int) else 0) = 1 from rfl] at CT
  have hzt:=zero_text oq
  have aq:=vz_abs q
  have sgq:=vz_sign q
  have hp0 : 0 < q.size:=by
    rcases Nat.eq_zero_or_pos q.size with h0 | h0
    · have hl : q.data.toList = []:=List.eq_nil_of_length_eq_zero (by simpa using h0)
      have:=(okz_parts (show ckL q.data.toList = 0 from oq)).1
      rw [hl] at this;exact absurd this (by decide)
    · exact h0
  obtain ⟨t,ht⟩:=at0 hp0
  obtain ⟨c,hc⟩ : ∃ c,(q[0]'hp0).toNat = c:=⟨_,rfl⟩
  by_cases h0 : vz q = 0
  · rw [decide_eq_true h0] at hzt
    rw [if_pos (Or.inr (Or.inl (by omega)))] at hv
    subst hv
    clear h0 aq sgq ht op oq sx sp sq
    go_enter Tryz.func46,Tryz.ntmps46
    go_wp2_with (first
      | (go_at_call 116;(with_reducible refine (S.out _).mono ?_);rintro e w1 ⟨rfl,hb1⟩;have hs1:=hb1.size)
      | (go_at_call 13;(with_reducible refine (Cp.out _).mono ?_);rintro e wa ⟨rfl,hw⟩;subst wa)
      | (go_at_call 13;(with_reducible refine (Cq.out _).mono ?_);rintro e wb ⟨rfl,hw⟩;subst wb)
      | (go_at_call 79;(with_reducible refine (refFirst_any _ 2 2 [(0 : Int),0] rfl (by omega) _ (pair_cells _ 0 0 3)).mono ?_);rintro e wc ⟨rfl,hw⟩;subst wc;rw [hf2])
      | (go_at_call 65;(with_reducible refine (CT.out _).mono ?_);rintro e wd ⟨rfl,hw⟩;subst wd))
    go_ret
    exact ⟨rfl,(by repeat' first | exact Below.refl _ _ | assumption | refine Below.setCell ?_ ?_ _ | refine Below.alloc ?_ ?_ _ | refine below_drewN ?_ | refine Below.drew ?_ | (simp;done) | (simp;omega))⟩
  · rw [decide_eq_false h0] at hzt
    have hsz : ∃ n,q.size = n:=⟨_,rfl⟩
    obtain ⟨n,hn⟩:=hsz
    by_cases h45 : q[0]'hp0 = 45
    · have hneg:=vz_minus oq (t:=t) (by rw [ht,h45])
      rw [if_pos (Or.inl (by rw [<- sgq];exact decide_eq_true hneg))] at hv
      subst hv
      have hb : ((c : Int) == 45) = true:=by rw [<- hc,h45];rfl
      clear h0 aq sgq ht op oq sx sp sq h45 hneg
      go_enter Tryz.func46,Tryz.ntmps46
      go_wp2_with (first
        | (go_at_call 116;(with_reducible refine (S.out _).mono ?_);rintro e w1 ⟨rfl,hb1⟩;have hs1:=hb1.size)
        | (go_at_call 13;(with_reducible refine (Cp.out _).mono ?_);rintro e wa ⟨rfl,hw⟩;subst wa)
        | (go_at_call 13;(with_reducible refine (Cq.out _).mono ?_);rintro e wb ⟨rfl,hw⟩;subst wb)
        | (go_at_call 79;(with_reducible refine (refFirst_any _ 2 2 [(0 : Int),0] rfl (by omega) _ (pair_cells _ 0 0 3)).mono ?_);rintro e wc ⟨rfl,hw⟩;subst wc;rw [hf2])
        | (go_at_call 65;(with_reducible refine (CT.out _).mono ?_);rintro e wd ⟨rfl,hw⟩;subst wd))
      go_ret
      exact ⟨rfl,(by repeat' first | exact Below.refl _ _ | assumption | refine Below.setCell ?_ ?_ _ | refine Below.alloc ?_ ?_ _ | refine below_drewN ?_ | refine Below.drew ?_ | (simp;done) | (simp;omega))⟩
    · have hpos:=vz_plus (x:=q) (by rw [ht];simpa using h45)
      have hS : intS q.data.toList = false:=by rw [<- sgq];exact decide_eq_false (by omega)
      have hM : intM q.data.toList ≠ 0:=by omega
      have hv2 : V = if Nat.gcd (vz p).natAbs (vz q).natAbs ≠ 1 then 1 else 0:=by
        rw [hv,hS,vz_abs,vz_abs]
        simp [hM]
      have c45 : c ≠ 45:=fun e=>h45 (UInt8.toNat_inj.1 (by rw [hc,e];rfl))
      have hb : ((c : Int) == 45) = false:=by simp;omega
      have Rp:=Lib.hid (fun W=>refReadZ p op W)
      have Rq:=Lib.hid (fun W=>refReadZ q oq W)
      have b1:=lsz_okz op
      have b2:=lsz_okz oq
      have CC:=Lib.hid (fun W v1 v2 (g1 : BigAt W v1 (vz p)) (g2 : BigAt W v2 (vz q))=>refCommon_any v1 v2 (vz p) (vz q) (by omega) (by omega) W g1 g2)
      have CW:=Lib.hid (fun W v (g : BigAt W v (((Nat.gcd (vz p).natAbs (vz q).natAbs : Nat) : Int)))=>refWrite_any v _ (Nat.le_trans (lsz_gcd _ _ b1 b2) (by omega)) W g)
      have htx:=one_text (Nat.gcd (vz p).natAbs (vz q).natAbs)
      obtain ⟨g,hg⟩ : ∃ g,Nat.gcd (vz p).natAbs (vz q).natAbs = g:=⟨_,rfl⟩
      rw [hg] at CC CW htx
      simp only [hg] at hv2
      obtain ⟨T,hT⟩ : ∃ T,tz (g : Int) = T:=⟨_,rfl⟩
      rw [hT] at CW htx
      obtain ⟨bb,hbb⟩ : ∃ b,(decide (g = 1)) = b:=⟨_,rfl⟩
      rw [hbb] at htx
      have hV : (if (!bb) = true then (1 : Int) else 0) = V:=by
        rw [hv2,<- hbb]
        by_cases h : g = 1 <;> simp [h]
      have CB:=Lib.hid (fun W=>refWhen_any (!bb) 1 W)
      rw [hV] at CB
      clear h0 aq sgq ht op oq sx sp sq h45 hpos hS hM hv hv2 b1 b2 hT hbb hV hg c45
      go_enter Tryz.func46,Tryz.ntmps46
      go_wp2_with (first
        | (go_at_call 116;(with_reducible refine (S.out _).mono ?_);rintro e w1 ⟨rfl,hb1⟩;have hs1:=hb1.size)
        | (go_at_call 13;(with_reducible refine (Cp.out _).mono ?_);rintro e wa ⟨rfl,hw⟩;subst wa)
        | (go_at_call 13;(with_reducible refine (Cq.out _).mono ?_);rintro e wb ⟨rfl,hw⟩;subst wb)
        | (go_at_call 79;(with_reducible refine (refFirst_any _ 2 2 [(0 : Int),0] rfl (by omega) _ (pair_cells _ 0 0 3)).mono ?_);rintro e wc ⟨rfl,hw⟩;subst wc;rw [hf2])
        | (go_at_call 70;(with_reducible refine (Rp.out _).mono ?_);rintro e w2 ⟨v2,rfl,hg2,hb2⟩;obtain ⟨b3,p3,k3,c3,rfl⟩:=hg2.shape;have hl2 : Below w.heap.size w w2:=Below.trans (a:=w) (B:=w.heap.size) (by repeat' first | exact Below.refl _ _ | assumption | refine Below.setCell ?_ ?_ _ | refine Below.alloc ?_ ?_ _ | refine below_drewN ?_ | refine Below.drew ?_ | (simp;done) | (simp;omega)) (Below.mono hb2 (Below.size (B:=w.heap.size) (w:=w) (by repeat' first | exact Below.refl _ _ | assumption | refine Below.setCell ?_ ?_ _ | refine Below.alloc ?_ ?_ _ | refine below_drewN ?_ | refine Below.drew ?_ | (simp;done) | (simp;omega))));clear hb2)
        | (go_at_call 70;(with_reducible refine (Rq.out _).mono ?_);rintro e w3 ⟨v3,rfl,hg3,hb3⟩;obtain ⟨b4,p4,k4,c4,rfl⟩:=hg3.shape;have hl3:=Below.trans hl2 (Below.mono hb3 (Below.size hl2));have hg2':=hg2.keep hb3;clear hb3)
        | (go_at_call 97;(with_reducible refine (CC.out _ _ _ hg2' hg3).mono ?_);rintro e w4 ⟨v4,rfl,hg4,hb4⟩;obtain ⟨b5,p5,k5,c5,rfl⟩:=hg4.shape;have hl4:=Below.trans hl3 (Below.mono hb4 (Below.size hl3));clear hb4)
        | (go_at_call 67;(with_reducible refine (CW.out _ _ hg4).mono ?_);rintro e w5 ⟨rfl,hb5⟩;have hl5:=Below.trans hl4 (Below.mono hb5 (Below.size hl4));clear hb5)
        | (go_at_call 65;(with_reducible refine (CB.out _).mono ?_);rintro e wd ⟨rfl,hw⟩;subst wd))
      go_ret
      exact ⟨rfl,hl5⟩
set_option maxHeartbeats 2000000 in
set_option maxRecDepth 100000 in
theorem refCheckReal_any (x : ByteArray) (sx : x.size <= 300) (w : World) : Calls Tryz.prog 46 #[.string x] w fun e w'=>e = .returned (.int .i64 (ckR x.data.toList))/\Below w.heap.size w w':=by
  have S:=fun W=>refSplit_any x x.size rfl (by omega) W
  rw [ckR_split]
  by_cases h : splB x.data.toList = true
  · rw [if_neg (by rw [h];decide)]
    obtain ⟨l1,l2⟩:=cut_size h
    have hx : x.data.toList.length = x.size:=by simp
    have e1:=str_len (upT x.data.toList)
    have e2:=str_len (loT x.data.toList)
    have t1 : (⟨(upT x.data.toList).toArray⟩ : ByteArray).data.toList = upT x.data.toList:=by simp
    have t2 : (⟨(loT x.data.toList).toArray⟩ : ByteArray).data.toList = loT x.data.toList:=by simp
    simp only [if_pos h] at S
    obtain ⟨p,hp⟩ : ∃ p : ByteArray,⟨(upT x.data.toList).toArray⟩ = p:=⟨_,rfl⟩
    obtain ⟨q,hq⟩ : ∃ p : ByteArray,⟨(loT x.data.toList).toArray⟩ = p:=⟨_,rfl⟩
    rw [hp] at t1 e1
    rw [hq] at t2 e2
    rw [hp,hq] at S
    rw [<- t1,<- t2]
    by_cases hE : firstE [ckL p.data.toList,ckL q.data.toList] = 0
    · rw [if_neg (by simpa using hE)]
      obtain ⟨o1,o2⟩:=firstE_two hE
      exact refCkR_in x p q sx _ rfl (by omega) (by omega) o1 o2 S w
    · rw [if_pos hE]
      have S:=Lib.hid S
      have Cp:=Lib.hid (fun W=>refCheck_any p (by omega) W)
      have Cq:=Lib.hid (fun W=>refCheck_any q (by omega) W)
      obtain ⟨E1,h1⟩ : ∃ E,ckL p.data.toList = E:=⟨_,rfl⟩
      obtain ⟨E2,h2⟩ : ∃ E,ckL q.data.toList = E:=⟨_,rfl⟩
      rw [h1] at Cp hE ⊢
      rw [h2] at Cq hE ⊢
      obtain ⟨E,hEE⟩ : ∃ E,firstE [E1,E2] = E:=⟨_,rfl⟩
      rw [hEE] at hE ⊢
      have d0 : (E != 0) = true:=by simpa using hE
      clear h1 h2 hE t1 t2 e1 e2 hp hq hx l1 l2 h
      go_enter Tryz.func46,Tryz.ntmps46
      go_wp2_with (first
        | (go_at_call 116;(with_reducible refine (S.out _).mono ?_);rintro e w1 ⟨rfl,hb1⟩;have hs1:=hb1.size)
        | (go_at_call 13;(with_reducible refine (Cp.out _).mono ?_);rintro e wa ⟨rfl,hw⟩;subst wa)
        | (go_at_call 13;(with_reducible refine (Cq.out _).mono ?_);rintro e wb ⟨rfl,hw⟩;subst wb)
        | (go_at_call 79;(with_reducible refine (refFirst_any _ 2 2 [E1,E2] rfl (by omega) _ (pair_cells _ E1 E2 3)).mono ?_);rintro e wc ⟨rfl,hw⟩;subst wc;rw [hEE]))
      go_ret
      exact ⟨rfl,(by repeat' first | exact Below.refl _ _ | assumption | refine Below.setCell ?_ ?_ _ | refine Below.alloc ?_ ?_ _ | refine below_drewN ?_ | refine Below.drew ?_ | (simp;done) | (simp;omega))⟩
  · rw [Bool.not_eq_true] at h
    rw [if_pos h]
    simp only [h,Bool.false_eq_true,if_false] at S
    have S:=Lib.hid S
    clear h sx
    go_enter Tryz.func46,Tryz.ntmps46
    go_wp2_with (go_at_call 116;(with_reducible refine (S.out _).mono ?_);rintro e w1 ⟨rfl,hb1⟩;have hs1:=hb1.size)
    go_ret
    exact ⟨rfl,(by repeat' first | exact Below.refl _ _ | assumption | refine Below.setCell ?_ ?_ _ | refine Below.alloc ?_ ?_ _ | refine below_drewN ?_ | refine Below.drew ?_ | (simp;done) | (simp;omega))⟩
end
section
open Go.RowKit
open Qd (lims)
theorem BigAt.opened {w : World} {v : Value} {z : Int} (h : BigAt w v z) : ∃ t p c,v = .agg #[.bool t,.slice p (Qd.lsz z.natAbs) c]/\decide (z < 0) = t/\Mags w (.slice p (Qd.lsz z.natAbs) c) z.natAbs:=by
  obtain ⟨s,rfl,hs⟩:=h
  obtain ⟨p,c,rfl,_,_⟩:=hs.parts
  exact ⟨_,p,c,rfl,rfl,hs⟩
structure Bk (W : World) (b : Nat) (z : Int) (t : Bool) (s : Value) : Prop where
  c0 : W.cell? ⟨b,0,none⟩ = some (.bool t)
  c1 : W.cell? ⟨b,1,none⟩ = some s
  f0 : W.frozen? ⟨b,0,none⟩ = false
  f1 : W.frozen? ⟨b,1,none⟩ = false
  ht : decide (z < 0) = t
  m : Mags W s z.natAbs
  lt : b < W.heap.size
theorem Bk.keep {W W' : World} {b : Nat} {z : Int} {t : Bool} {s : Value} (h : Bk W b z t s) (hb : Below W.heap.size W W') : Bk W' b z t s :=
  { c0:=cell_kept h.c0 hb,c1:=cell_kept h.c1 hb,f0:=frozen_kept h.f0 hb h.lt,f1:=frozen_kept h.f1 hb h.lt,ht:=h.ht,m:=h.m.keep hb,lt:=Nat.lt_of_lt_of_le h.lt hb.size }
theorem Bk.big {W : World} {b : Nat} {z : Int} {t : Bool} {s : Value} (h : Bk W b z t s) : BigAt W (.agg #[.bool t,s]) z:=⟨s,by rw [h.ht],h.m⟩
theorem Bk.set {W : World} {b : Nat} {z z' : Int} {t t' : Bool} {s u : Value} (h : Bk W b z t s) (ht : decide (z' < 0) = t') (hu : Mags W u z'.natAbs) : Bk ((W.setCell ⟨b,0,none⟩ (.bool t')).setCell ⟨b,1,none⟩ u) b z' t' u :=
  { c0:=set_cell (World.cell?_setCell_same _ _ _ h.c0) (by omega),c1:=World.cell?_setCell_same _ _ _ (set_cell h.c1 (by omega)),f0:=set_frozen (set_frozen h.f0),f1:=set_frozen (set_frozen h.f1),ht:=ht,m:=Mg.set2 hu h.c0 _ _,lt:=by simpa using h.lt }
theorem Bk.other {W : World} {b c : Nat} {z z1 : Int} {t t1 : Bool} {s s1 : Value} (h : Bk W c z t s) (h1 : Bk W b z1 t1 s1) (hne : c ≠ b) (u0 u1 : Value) : Bk ((W.setCell ⟨b,0,none⟩ u0).setCell ⟨b,1,none⟩ u1) c z t s :=
  { c0:=cell_set (cell_set h.c0 hne) hne,c1:=cell_set (cell_set h.c1 hne) hne,f0:=set_frozen (set_frozen h.f0),f1:=set_frozen (set_frozen h.f1),ht:=h.ht,m:=Mg.set2 h.m h1.c0 _ _,lt:=by simpa using h.lt }
def FrAt (w : World) (v : Value) (P Q : Int) : Prop:=∃ t p k c t' p' k' c',v = .agg #[.bool t,.slice p k c,.bool t',.slice p' k' c']/\BigAt w (.agg #[.bool t,.slice p k c]) P/\BigAt w (.agg #[.bool t',.slice p' k' c']) Q
theorem FrAt.keep {w w' : World} {v : Value} {P Q : Int} (h : FrAt w v P Q) (hb : Below w.heap.size w w') : FrAt w' v P Q:=by
  obtain ⟨t,p,k,c,t',p',k',c',rfl,h1,h2⟩:=h
  exact ⟨t,p,k,c,t',p',k',c',rfl,h1.keep hb,h2.keep hb⟩
def lowP (P Q : Int) : Int:=(if Q < 0 then -P else P) / (Nat.gcd P.natAbs Q.natAbs : Nat)
def lowQ (P Q : Int) : Int:=(Q.natAbs : Int) / (Nat.gcd P.natAbs Q.natAbs : Nat)
end
end Go.Proofs.YtpbegoflpfdajaaGreatDoor
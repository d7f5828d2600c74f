/- WHAT IS PROVED: contracts of functions of the numbers package and laws for them, used by the last text of this claim. CONDITIONS: stated at each theorem. -/
import Derived.Test.YtpbegoflpfdajaaGreatDoorB29
import Derived.Test.YtpbegoflpfdajaaGreatDoorB13
namespace Go.Proofs.YtpbegoflpfdajaaGreatDoor
section
open Go.RowKit
def dcW (l : List UInt8) : List UInt8:=(Lib.cut l [46]).1
def dcP (l : List UInt8) : List UInt8:=(Lib.cut l [46]).2.1
def dcF (l : List UInt8) : Bool:=(Lib.cut l [46]).2.2 && areDig (dcW l) && areDig (dcP l)
theorem cutDot_any (s : ByteArray) (hs : s.size < 4294967281) (w : World) (hg : Gl w) :
    Calls Tryz.prog 113 #[.string s,.string ⟨#[46]⟩] w fun e w'=>e = .returned (.tuple #[.string ⟨(dcW s.data.toList).toArray⟩,.string ⟨(dcP s.data.toList).toArray⟩,.bool (Lib.cut s.data.toList [46]).2.2])/\Below w.heap.size w w':=by
  obtain ⟨m,hm⟩:=hg.ml
  refine (Tryz.strings_Cut s ⟨#[46]⟩ m w hs hm).mono ?_
  rintro e w' ⟨rfl,n,rfl⟩
  exact ⟨rfl,below_drewN (Below.refl _ _)⟩
set_option maxHeartbeats 2000000 in
theorem decimalParts_any (x : ByteArray) (hx : x.size < 4294967281) (w : World) (hg : Gl w) :
    Calls Tryz.prog 119 #[.string x] w fun e w'=>e = .returned (.tuple #[.string ⟨(dcW x.data.toList).toArray⟩,.string ⟨(dcP x.data.toList).toArray⟩,.bool (dcF x.data.toList)])/\Below w.heap.size w w':=by
  have cc:=fun w g=>cutDot_any x hx w g
  have ca:=fun w=>areDigits_any ⟨(dcW x.data.toList).toArray⟩ w
  have cb:=fun w=>areDigits_any ⟨(dcP x.data.toList).toArray⟩ w
  change ∀ w,Calls Tryz.prog 63 _ w (fun e w'=>e = .returned (.bool (areDig (dcW x.data.toList)))/\Below w.heap.size w w') at ca
  change ∀ w,Calls Tryz.prog 63 _ w (fun e w'=>e = .returned (.bool (areDig (dcP x.data.toList)))/\Below w.heap.size w w') at cb
  unfold dcF
  obtain ⟨fb,hfb⟩ : ∃ b,(Lib.cut x.data.toList [46]).2.2 = b:=⟨_,rfl⟩
  obtain ⟨f1,hf1⟩ : ∃ b,areDig (dcW x.data.toList) = b:=⟨_,rfl⟩
  obtain ⟨f2,hf2⟩ : ∃ b,areDig (dcP x.data.toList) = b:=⟨_,rfl⟩
  rw [hfb] at cc ⊢
  rw [hf1] at ca ⊢
  rw [hf2] at cb ⊢
  obtain ⟨U,hU⟩ : ∃ U : ByteArray,⟨(dcW x.data.toList).toArray⟩ = U:=⟨_,rfl⟩
  obtain ⟨V,hV⟩ : ∃ V : ByteArray,⟨(dcP x.data.toList).toArray⟩ = V:=⟨_,rfl⟩
  rw [hU] at cc ca ⊢
  rw [hV] at cc cb ⊢
  have HG:=Lib.hid hg;have Cc:=Lib.hid cc;have Ca:=Lib.hid ca;have Cb:=Lib.hid cb
  clear cc ca cb hfb hf1 hf2 hU hV hg hx
  cases fb with
  | false =>
    go_enter Tryz.func119,Tryz.ntmps119
    go_wp2_with (first
      | (go_at_call 113;(with_reducible refine (Cc.out _ HG.out).mono ?_);rintro e w1 ⟨rfl,hb1⟩;have HB1:=Lib.hid hb1;clear hb1))
    go_ret3
    exact ⟨rfl,HB1.out⟩
  | true =>
    cases f1 with
    | false =>
      go_enter Tryz.func119,Tryz.ntmps119
      go_wp2_with (first
        | (go_at_call 113;(with_reducible refine (Cc.out _ HG.out).mono ?_);rintro e w1 ⟨rfl,hb1⟩;have HB1:=Lib.hid hb1;clear hb1)
        | (go_at_call 63;(with_reducible refine (Ca.out _).mono ?_);rintro e w2 ⟨rfl,hb2⟩;have HB2:=Lib.hid (HB1.out.trans (hb2.mono HB1.out.size));clear hb2 Ca))
      go_ret3
      exact ⟨rfl,HB2.out⟩
    | true =>
      go_enter Tryz.func119,Tryz.ntmps119
      go_wp2_with (first
        | (go_at_call 113;(with_reducible refine (Cc.out _ HG.out).mono ?_);rintro e w1 ⟨rfl,hb1⟩;have HB1:=Lib.hid hb1;clear hb1)
        | (go_at_call 63;(with_reducible refine (Ca.out _).mono ?_);rintro e w2 ⟨rfl,hb2⟩;have HB2:=Lib.hid (HB1.out.trans (hb2.mono HB1.out.size));clear hb2 Ca)
        | (go_at_call 63;(with_reducible refine (Cb.out _).mono ?_);rintro e w3 ⟨rfl,hb3⟩;have HB3:=Lib.hid (HB2.out.trans (hb3.mono HB2.out.size));clear hb3))
      go_ret3
      exact ⟨by cases f2 <;> rfl,HB3.out⟩
theorem rep_zeros : ∀ n : Nat,Lib.repeatL [48] n = List.replicate n 48
  | 0=>by simp [Lib.repeatL]
  | n + 1=>by simp [Lib.repeatL,rep_zeros n,List.replicate_succ]
def tenL (n : Nat) : List UInt8:=49 :: List.replicate n 48
theorem valL_ten : ∀ n : Nat,valL (tenL n) = 10 ^ n
  | 0=>by decide
  | n + 1=>by
    have h : tenL (n + 1) = tenL n ++ [48]:=by unfold tenL;rw [List.replicate_succ',List.cons_append]
    rw [h,valL_snoc,valL_ten n,Nat.pow_succ];rfl
theorem ten_dig (n : Nat) (hn : n <= 200) : AllDig (tenL n):=by
  refine ⟨by simp [tenL];omega,fun i h=>?_⟩
  have : (tenL n)[i] = 49 ∨ (tenL n)[i] = 48:=by
    cases i with
    | zero=>exact Or.inl rfl
    | succ i=>refine Or.inr ?_;simp [tenL]
  rcases this with h1 | h1 <;> rw [h1] <;> decide
theorem areDig_all {l : List UInt8} (h : areDig l = true) (hl : l.length <= 270) : AllDig l/\0 < l.length:=by
  unfold areDig at h
  rw [Bool.and_eq_true,List.all_eq_true] at h
  refine ⟨⟨hl,fun i hi=>by have:=h.1 l[i] (List.getElem_mem _);simpa [isDig] using this⟩,?_⟩
  cases hh : l with
  | nil=>rw [hh] at h;simp at h
  | cons c r=>simp
theorem dig_app {a b : List UInt8} (ha : AllDig a) (hb : AllDig b) (h : (a ++ b).length <= 270) : AllDig (a ++ b):=by
  refine ⟨h,fun i hi=>?_⟩
  by_cases hh : i < a.length
  · rw [List.getElem_append_left hh];exact ha.2 i hh
  · rw [List.getElem_append_right (by omega)];exact hb.2 _ _
theorem val14 {l : List UInt8} (h : AllDig l) (hl : l.length <= 126) : valL l < bb ^ 14:=by
  have h1:=valL_lt l (fun c hc=>by
    obtain ⟨i,hi,rfl⟩:=List.getElem_of_mem hc
    simp only [isDig,decide_eq_true_eq]
    exact h.2 i hi)
  have h2 : 10 ^ l.length <= bb ^ 14:=by rw [bb_ten,<- Nat.pow_mul];exact Nat.pow_le_pow_right (by omega) (by omega)
  omega
theorem one_zeros (T : ByteArray) (n : Nat) (h : ⟨(Lib.repeatL [48] n).toArray⟩ = T) : (⟨#[49]⟩ ++ T : ByteArray).data.toList = tenL n:=by
  subst h
  rw [rep_zeros]
  simp [tenL]
theorem str_size (l : List UInt8) : (⟨l.toArray⟩ : ByteArray).size = l.length:=by show l.toArray.size = _;rw [List.size_toArray]
def ckD (l : List UInt8) : Int:=if dcF l = false then 1 else if 120 < (dcW l).length + (dcP l).length then 4 else 0
set_option maxHeartbeats 4000000 in
set_option maxRecDepth 20000 in
theorem fromDecimal_ok (x : ByteArray) (hx : x.size < 4294967281) (w : World) (hg : Gl w) (h : ckD x.data.toList = 0) : Calls Tryz.prog 51 #[.string x] w fun e w'=>e = .returned (resR (valL (dcW x.data.toList ++ dcP x.data.toList)) false (10 ^ (dcP x.data.toList).length) false)/\Below w.heap.size w w':=by
  have cc:=decimalParts_any x hx w hg
  unfold ckD at h
  split at h
  · omega
  · rename_i hf
    split at h
    · omega
    · rename_i hl
      have hf : dcF x.data.toList = true:=by simpa using hf
      rw [hf] at cc
      have hff:=hf
      unfold dcF at hff
      rw [Bool.and_eq_true,Bool.and_eq_true] at hff
      have d1:=areDig_all hff.1.2 (by omega)
      have d2:=areDig_all hff.2 (by omega)
      have d3:=dig_app d1.1 d2.1 (by rw [List.length_append];omega)
      have v3:=val14 d3 (by rw [List.length_append];omega)
      have dt:=ten_dig (dcP x.data.toList).length (by omega)
      have v4 : 10 ^ (dcP x.data.toList).length < bb ^ 14:=by rw [<- valL_ten];exact val14 dt (by simp [tenL];omega)
      have s1:=str_size (dcW x.data.toList)
      have s2:=str_size (dcP x.data.toList)
      have cr:=fun w=>Tryz.strings_Repeat ⟨#[48]⟩ (dcP x.data.toList).length w (by omega) (by show 1 * _ <= _;omega)
      change ∀ w,Calls Tryz.prog 62 _ w (fun e w'=>e = .returned (.string ⟨(Lib.repeatL [48] (dcP x.data.toList).length).toArray⟩)/\Below w.heap.size w w') at cr
      have st:=str_size (Lib.repeatL [48] (dcP x.data.toList).length)
      rw [rep_zeros,List.length_replicate,<- rep_zeros] at st
      obtain ⟨T,hT⟩ : ∃ T : ByteArray,⟨(Lib.repeatL [48] (dcP x.data.toList).length).toArray⟩ = T:=⟨_,rfl⟩
      have h1:=one_zeros T _ hT
      rw [hT] at cr st
      have cp1:=fun w g=>parseMag_any (⟨#[49]⟩ ++ T) (by rw [h1];exact dt) w g
      rw [h1,valL_ten] at cp1
      have hUV : (⟨(dcW x.data.toList).toArray⟩ ++ ⟨(dcP x.data.toList).toArray⟩ : ByteArray).data.toList = dcW x.data.toList ++ dcP x.data.toList:=by simp
      have cp2:=fun w g=>parseMag_any (⟨(dcW x.data.toList).toArray⟩ ++ ⟨(dcP x.data.toList).toArray⟩) (by rw [hUV];exact d3) w g
      rw [hUV] at cp2
      generalize valL (dcW x.data.toList ++ dcP x.data.toList) = p at *
      obtain ⟨n,hn⟩ : ∃ n,(dcP x.data.toList).length = n:=⟨_,rfl⟩
      rw [hn] at cr cp1 v4 s2 st ⊢
      have hp10 : 0 < 10 ^ n:=Nat.pow_pos (by omega)
      generalize 10 ^ n = q at *
      have cn1:=fun w=>number_any p false (big_of v3) w
      change ∀ w,Calls Tryz.prog 93 _ w (fun e w'=>e = .returned (.agg (sgL p false).toArray)/\Below w.heap.size w w') at cn1
      have cn2:=fun w=>number_any q false (big_of v4) w
      change ∀ w,Calls Tryz.prog 93 _ w (fun e w'=>e = .returned (.agg (sgL q false).toArray)/\Below w.heap.size w w') at cn2
      have c3:=fun w=>ratio_any p false q false (up29 v3) (up29 v4) hp10 w
      have c4:=fun w g=>fracResult_any (p / Nat.gcd p q) (ratS p false false && !decide (p / Nat.gcd p q = 0)) (q / Nat.gcd p q) false (rat_lt30 (up29 v3)) (rat_lt30 (up29 v4)) w g
      change ∀ w,Gl w->Calls Tryz.prog 109 _ w (fun e w'=>e = .returned (resR p false q false)/\Below w.heap.size w w') at c4
      obtain ⟨R,hR⟩ : ∃ R,resR p false q false = R:=⟨_,rfl⟩
      have hR2 : ∃ a b,R = .tuple #[a,b]:=⟨_,_,hR.symm⟩
      rw [hR] at c4 ⊢
      obtain ⟨ra,rb,rfl⟩:=hR2
      generalize Value.agg (frL (p / Nat.gcd p q) (ratS p false false && !decide (p / Nat.gcd p q = 0)) (q / Nat.gcd p q) false).toArray = V3 at c3 c4
      obtain ⟨U,hU⟩ : ∃ U : ByteArray,⟨(dcW x.data.toList).toArray⟩ = U:=⟨_,rfl⟩
      obtain ⟨V,hV⟩ : ∃ V : ByteArray,⟨(dcP x.data.toList).toArray⟩ = V:=⟨_,rfl⟩
      rw [hU,hV] at cc cp2
      rw [hU] at s1
      rw [hV] at s2
      have hlu : U.size + V.size <= 120:=by omega
      have hvn : (V.size : Int) = (n : Int):=by omega
      have htn : T.size <= 120:=by omega
      have td : decide ((U.size : Int) + (V.size : Int) > 120) = false:=by simp;omega
      have tn : decide ((U.size : Int) + (n : Int) > 120) = false:=by simp;omega
      have HG:=Lib.hid hg
      have Cc:=Lib.hid cc;have Cr:=Lib.hid cr;have Cp1:=Lib.hid cp1;have Cp2:=Lib.hid cp2;have Cn1:=Lib.hid cn1;have Cn2:=Lib.hid cn2;have C3:=Lib.hid c3;have C4:=Lib.hid c4
      clear cc cr cp1 cp2 cn1 cn2 c3 c4 hU hV hR h1 hT hf hff d1 d2 d3 v3 dt v4 s1 s2 st hUV hp10 hg hx h hl
      go_enter Tryz.func51,Tryz.ntmps51
      go_wp2_with (first
        | (go_at_call 119;(with_reducible refine (Cc.out).mono ?_);rintro e w1 ⟨rfl,hb1⟩;have HB1:=Lib.hid hb1;clear hb1)
        | (go_at_call 62;(with_reducible refine (Cr.out _).mono ?_);rintro e w2 ⟨rfl,hb2⟩;have HB2:=Lib.hid (HB1.out.trans (hb2.mono HB1.out.size));have HG2:=Lib.hid (HG.out.keep HB2.out);clear hb2)
        | (go_at_call 120;(with_reducible refine (Cp1.out _ HG2.out.pow).mono ?_);rintro e w3 ⟨rfl,hb3⟩;have HB3:=Lib.hid (HB2.out.trans (hb3.mono HB2.out.size));clear hb3)
        | ((with_reducible refine al_zb 86 _ w3.heap.size ?_ ?_ z86 ?_);(· exact ⟨rfl,rfl⟩);· rfl)
        | ((with_reducible refine st86 w3.heap.size 0 q ?_ ?_ ?_);(· exact ⟨rfl,_,_,rfl,rfl,rfl⟩);· exact there_at rfl _ 86 (by rw [mgL_len])))
      try simp only [Act.put,List.setIfInBounds_toArray,List.set_cons_zero,List.set_cons_succ]
      have HBx:=Lib.hid ((HB3.out.trans ((nw1_old w3 q).mono HB3.out.size)).drew)
      have HRx:=Lib.hid (show (nw1 w3 q).drew.rangeAt w3.heap.size 0 (mgL q) from nw1_at w3 q)
      refine wp_region_held_drew (S:=(fun w'=>Below w.heap.size w w'/\w'.rangeAt w3.heap.size 0 (mgL q))) (by kernel_rfl) ?_ (fun hH=>?_)
      · exact ⟨HBx.out,HRx.out⟩
      try dsimp only at hH
      refine wpAnyH_take (i:=0) (v:=(.string U)) rfl (by kernel_rfl) (by kernel_rfl) (by kernel_rfl) (fun _ _ _ h=>h) (Or.inl ⟨by rfl,fun wz hz=>by skip;go_simp⟩) hH ?_
      try simp only [Act.put,List.getElem_toArray,List.getElem_cons_zero,List.setIfInBounds_toArray,List.set_cons_zero,List.set_cons_succ]
      refine wpAnyH_take (i:=1) (v:=(.string V)) rfl (by kernel_rfl) (by kernel_rfl) (by kernel_rfl) (fun _ _ _ h=>h) (Or.inl ⟨by rfl,fun wz hz=>by skip;go_simp⟩) hH ?_
      try simp only [Act.put,List.getElem_toArray,List.getElem_cons_succ,List.getElem_cons_zero,List.setIfInBounds_toArray,List.set_cons_zero,List.set_cons_succ]
      refine wpAnyH_take (i:=2) (v:=(.string (U ++ V))) rfl (by kernel_rfl) (by kernel_rfl) (by kernel_rfl) (fun _ _ _ h=>h) (Or.inl ⟨by rfl,fun wz hz=>by skip;go_simp;omega⟩) hH ?_
      try simp only [Act.put,List.getElem_toArray,List.getElem_cons_succ,List.getElem_cons_zero,List.setIfInBounds_toArray,List.set_cons_zero,List.set_cons_succ]
      refine wpAnyH_take (i:=5) (v:=(.agg (mgL q).toArray)) rfl (by kernel_rfl) (by kernel_rfl) (by kernel_rfl) (fun _ _ _ h=>h) (yld86 w3.heap.size 0 q rfl ⟨_,rfl,rfl⟩ (fun wz hz=>hz.2)) hH ?_
      try simp only [Act.put,List.getElem_toArray,List.getElem_cons_succ,List.getElem_cons_zero,List.setIfInBounds_toArray,List.set_cons_zero,List.set_cons_succ]
      refine wpAnyH_ready (rs:=[3]) (by kernel_rfl) (by simp) ?_
      refine AllReadyH.cons rfl (fun K hK=>?_) AllReadyH.nil
      simp only [List.getElem_toArray,List.getElem_cons_succ,List.getElem_cons_zero]
      rw [if_pos (by rfl)]
      go_simp
      refine (Cp2.out _ (HG.out.keep hH.1).pow).mono ?_;rintro e w1 ⟨rfl,hb1⟩
      try simp only []
      refine hK.out _ _ ?_ (fun hH1=>?_)
      · exact ⟨(hH.1).trans (hb1.mono (hH.1).size),range_keep hH.2 hb1⟩
      clear hK K
      try simp only [Act.put,List.getElem_toArray,List.getElem_cons_succ,List.getElem_cons_zero,List.setIfInBounds_toArray,List.set_cons_zero,List.set_cons_succ]
      refine wpAnyH_ready (rs:=[4]) (by kernel_rfl) (by simp) ?_
      refine AllReadyH.cons rfl (fun K hK=>?_) AllReadyH.nil
      simp only [List.getElem_toArray,List.getElem_cons_succ,List.getElem_cons_zero]
      rw [if_pos (by rfl)]
      go_simp
      refine (Cn1.out _).mono ?_;rintro e w2 ⟨rfl,hb2⟩
      try simp only []
      refine hK.out _ _ ?_ (fun hH2=>?_)
      · exact ⟨(hH1.1).trans (hb2.mono (hH1.1).size),range_keep hH1.2 hb2⟩
      clear hK K
      try simp only [Act.put,List.getElem_toArray,List.getElem_cons_succ,List.getElem_cons_zero,List.setIfInBounds_toArray,List.set_cons_zero,List.set_cons_succ]
      refine wpAnyH_ready (rs:=[6]) (by kernel_rfl) (by simp) ?_
      refine AllReadyH.cons rfl (fun K hK=>?_) AllReadyH.nil
      simp only [List.getElem_toArray,List.getElem_cons_succ,List.getElem_cons_zero]
      rw [if_pos (by rfl)]
      go_simp
      refine (Cn2.out _).mono ?_;rintro e w3 ⟨rfl,hb3⟩
      try simp only []
      refine hK.out _ _ ?_ (fun hH3=>?_)
      · exact ⟨(hH2.1).trans (hb3.mono (hH2.1).size),range_keep hH2.2 hb3⟩
      clear hK K
      try simp only [Act.put,List.getElem_toArray,List.getElem_cons_succ,List.getElem_cons_zero,List.setIfInBounds_toArray,List.set_cons_zero,List.set_cons_succ]
      refine wpAnyH_ready (rs:=[7]) (by kernel_rfl) (by simp) ?_
      refine AllReadyH.cons rfl (fun K hK=>?_) AllReadyH.nil
      simp only [List.getElem_toArray,List.getElem_cons_succ,List.getElem_cons_zero]
      rw [if_pos (by rfl)]
      go_simp
      refine (C3.out _).mono ?_;rintro e w4 ⟨rfl,hb4⟩
      try simp only []
      refine hK.out _ _ ?_ (fun hH4=>?_)
      · exact ⟨(hH3.1).trans (hb4.mono (hH3.1).size),range_keep hH3.2 hb4⟩
      clear hK K
      try simp only [Act.put,List.getElem_toArray,List.getElem_cons_succ,List.getElem_cons_zero,List.setIfInBounds_toArray,List.set_cons_zero,List.set_cons_succ]
      refine wpAnyH_ready (rs:=[8]) (by kernel_rfl) (by simp) ?_
      refine AllReadyH.cons rfl (fun K hK=>?_) AllReadyH.nil
      simp only [List.getElem_toArray,List.getElem_cons_succ,List.getElem_cons_zero]
      rw [if_pos (by rfl)]
      go_simp
      refine (C4.out _ (HG.out.keep hH4.1)).mono ?_;rintro e w5 ⟨rfl,hb5⟩
      try simp only []
      refine hK.out _ _ ?_ (fun hH5=>?_)
      · exact ⟨(hH4.1).trans (hb5.mono (hH4.1).size),range_keep hH4.2 hb5⟩
      clear hK K
      try simp only [Act.put,List.getElem_toArray,List.getElem_cons_succ,List.getElem_cons_zero,List.setIfInBounds_toArray,List.set_cons_zero,List.set_cons_succ]
      refine wpAnyH_take (i:=9) (v:=ra) rfl (by kernel_rfl) (by kernel_rfl) (by kernel_rfl) (fun _ _ _ h=>h) (Or.inl ⟨by rfl,fun wz hz=>by skip;go_simp⟩) hH5 ?_
      try simp only [Act.put,List.getElem_toArray,List.getElem_cons_succ,List.getElem_cons_zero,List.setIfInBounds_toArray,List.set_cons_zero,List.set_cons_succ]
      refine wpAnyH_take (i:=10) (v:=rb) rfl (by kernel_rfl) (by kernel_rfl) (by kernel_rfl) (fun _ _ _ h=>h) (Or.inl ⟨by rfl,fun wz hz=>by skip;go_simp⟩) hH5 ?_
      try simp only [Act.put,List.getElem_toArray,List.getElem_cons_succ,List.getElem_cons_zero,List.setIfInBounds_toArray,List.set_cons_zero,List.set_cons_succ]
      refine wpAnyH_take (i:=11) (v:=ra) rfl (by kernel_rfl) (by kernel_rfl) (by kernel_rfl) (fun _ _ _ h=>h) (Or.inl ⟨by rfl,fun wz hz=>by skip;go_simp⟩) hH5 ?_
      try simp only [Act.put,List.getElem_toArray,List.getElem_cons_succ,List.getElem_cons_zero,List.setIfInBounds_toArray,List.set_cons_zero,List.set_cons_succ]
      refine wpAnyH_take (i:=12) (v:=rb) rfl (by kernel_rfl) (by kernel_rfl) (by kernel_rfl) (fun _ _ _ h=>h) (Or.inl ⟨by rfl,fun wz hz=>by skip;go_simp⟩) hH5 ?_
      try simp only [Act.put,List.getElem_toArray,List.getElem_cons_succ,List.getElem_cons_zero,List.setIfInBounds_toArray,List.set_cons_zero,List.set_cons_succ]
      refine wpAnyH_done (by kernel_rfl) ?_ _
      go_wp2
      go_ret2
      exact ⟨rfl,hH5.1⟩
end
section
open Go.RowKit
open Go.Lib (decDigits nDigits)
set_option maxHeartbeats 2000000 in
theorem divMod_zero (x y : ByteArray) (w : World) (hg : Gl w) (h1 : ckL x.data.toList = 0) (h2 : ckL y.data.toList = 0) (h3 : intM y.data.toList = 0) : Calls Tryz.prog 27 #[.string x,.string y] w fun e w'=>e = .returned (.tuple #[.string ⟨#[]⟩,.string ⟨#[]⟩,.int .i64 30])/\Below w.heap.size w w':=by
  have cc:=checks_two x y w hg
  rw [h1,h2,show firstE [0,0] = 0 from rfl] at cc
  have Cc:=Lib.hid cc
  have HG:=Lib.hid hg
  have C2:=Lib.hid (fun w g=>parse_ck y h2 w g)
  have Cz:=Lib.hid (fun w=>isZero_any (intM y.data.toList) (intM_lt _ h2) w)
  rw [show decide (intM y.data.toList = 0) = true by simpa using h3] at Cz
  generalize intM y.data.toList = p2 at *
  generalize intS y.data.toList = s2 at *
  clear cc h1 h2 h3 hg
  go_enter Tryz.func27,Tryz.ntmps27
  go_wp2_with (first
    | (go_at_call 85;(with_reducible refine (Cc.out).mono ?_);rintro e w1 ⟨rfl,hb1⟩;have HB1:=Lib.hid (below2 hb1);have HG1:=Lib.hid (HG.out.keep2 hb1);clear hb1)
    | (go_at_call 72;(with_reducible refine (C2.out _ HG1.out).mono ?_);rintro e w2 ⟨rfl,hb2⟩;have HB2:=Lib.hid (HB1.out.trans (hb2.mono HB1.out.size));clear hb2)
    | ((with_reducible refine al_zb 88 _ w2.heap.size ?_ ?_ z88 ?_);(· exact ⟨rfl,rfl⟩);· rfl)
    | ((with_reducible refine st88 w2.heap.size 0 p2 s2 ?_ ?_ ?_);(· exact ⟨rfl,_,_,rfl,rfl,rfl⟩);· exact there_at rfl _ 88 (by rw [sgL_len]))
    | ((with_reducible refine ld86 w2.heap.size 0 p2 ?_ ?_ ?_);(· exact ⟨rfl,_,rfl,rfl⟩);· exact (range_sg (nws_at w2 p2 s2)).1)
    | (go_at_call 86;(with_reducible refine (Cz.out _).mono ?_);rintro e w3 ⟨rfl,hb3⟩;have HB3:=Lib.hid (HB2.out.trans ((nws_below hb3).mono HB2.out.size));clear hb3))
  go_ret3
  exact ⟨rfl,HB3.out⟩
theorem digN_fit {n : Nat} (h : n < 10 ^ 120) : digN n <= 120:=by
  unfold digN;split
  · omega
  · exact nD_le 119 n h
theorem fitsV_fit {n : Nat} (h : n < 10 ^ 120) : fitsV n = 0:=by
  unfold fitsV;rw [if_neg (by have:=digN_fit h;omega)]
theorem resT_val (n : Nat) (s : Bool) (T : ByteArray) (h : n < 10 ^ 120) (hT : ⟨(sgText n s).toArray⟩ = T) : resT n s = .tuple #[.string T,.int .i64 0]:=by
  unfold resT;rw [fitsV_fit h,if_pos (digN_fit h),hT]
theorem resF_val (p : Nat) (s : Bool) (q : Nat) (T : ByteArray) (h : p < 10 ^ 120) (h2 : q < 10 ^ 120) (hT : ⟨(frText p s q false).toArray⟩ = T) : resF p s q false = .tuple #[.string T,.int .i64 0]:=by
  have : fitF p q = 0:=by unfold fitF;rw [fitsV_fit h,fitsV_fit h2];rfl
  unfold resF;rw [this,if_pos rfl,hT]
theorem resR_val (p : Nat) (s : Bool) (q : Nat) (t : Bool) (p' : Nat) (s' : Bool) (q' : Nat) (T : ByteArray) (h1 : p / Nat.gcd p q = p') (h2 : (ratS p s t && !decide (p / Nat.gcd p q = 0)) = s') (h3 : q / Nat.gcd p q = q') (h : p' < 10 ^ 120) (h4 : q' < 10 ^ 120) (hT : ⟨(frText p' s' q' false).toArray⟩ = T) : resR p s q t = .tuple #[.string T,.int .i64 0]:=by
  unfold resR;rw [h2,h1,h3];exact resF_val p' s' q' T h h4 hT
theorem ex_of {f : Nat} {args : Array Value} {w : World} {v v' : Value} (h : v = v') (hc : Calls Tryz.prog f args w fun e w'=>e = .returned v/\Below w.heap.size w w') : Calls Tryz.prog f args w fun e w'=>e = .returned v'/\Below w.heap.size w w':=by subst h;exact hc
theorem ex_add (w : World) (hg : Gl w) : Calls Tryz.prog 21 #[.string ⟨#[57,57]⟩,.string ⟨#[49]⟩] w fun e w'=>e = .returned (.tuple #[.string ⟨#[49,48,48]⟩,.int .i64 0])/\Below w.heap.size w w' :=
  ex_of (by show resT (addR (intM [57,57]) (intS [57,57]) (intM [49]) (intS [49])).1 (addR (intM [57,57]) (intS [57,57]) (intM [49]) (intS [49])).2 = _;rw [show addR (intM [57,57]) (intS [57,57]) (intM [49]) (intS [49]) = ((100 : Nat),false) from by decide];exact resT_val 100 false _ (by decide) (by simp [sgText,decDigits])) (add_ok ⟨#[57,57]⟩ ⟨#[49]⟩ (by decide) (by decide) w hg)
theorem ex_sub (w : World) (hg : Gl w) : Calls Tryz.prog 23 #[.string ⟨#[53]⟩,.string ⟨#[49,50]⟩] w fun e w'=>e = .returned (.tuple #[.string ⟨#[45,55]⟩,.int .i64 0])/\Below w.heap.size w w' :=
  ex_of (by show resT (subR (intM [53]) (intS [53]) (intM [49,50]) (intS [49,50])).1 (subR (intM [53]) (intS [53]) (intM [49,50]) (intS [49,50])).2 = _;rw [show subR (intM [53]) (intS [53]) (intM [49,50]) (intS [49,50]) = ((7 : Nat),true) from by decide];exact resT_val 7 true _ (by decide) (by simp [sgText,decDigits])) (sub_ok ⟨#[53]⟩ ⟨#[49,50]⟩ (by decide) (by decide) w hg)
theorem ex_mul (w : World) (hg : Gl w) : Calls Tryz.prog 25 #[.string ⟨#[45,49,50]⟩,.string ⟨#[49,50]⟩] w fun e w'=>e = .returned (.tuple #[.string ⟨#[45,49,52,52]⟩,.int .i64 0])/\Below w.heap.size w w' :=
  ex_of (by exact resT_val 144 true _ (by decide) (by simp [sgText,decDigits])) (mul_ok ⟨#[45,49,50]⟩ ⟨#[49,50]⟩ (by decide) (by decide) w hg)
theorem ex_gcd (w : World) (hg : Gl w) : Calls Tryz.prog 33 #[.string ⟨#[45,49,50]⟩,.string ⟨#[49,56]⟩] w fun e w'=>e = .returned (.tuple #[.string ⟨#[54]⟩,.int .i64 0])/\Below w.heap.size w w' :=
  ex_of (by exact resT_val 6 false _ (by decide) (by simp [sgText,decDigits])) (gcd_ok ⟨#[45,49,50]⟩ ⟨#[49,56]⟩ (by decide) (by decide) w hg)
theorem ex_real (w : World) (hg : Gl w) : Calls Tryz.prog 47 #[.string ⟨#[54]⟩,.string ⟨#[45,52]⟩] w fun e w'=>e = .returned (.tuple #[.string ⟨#[45,51,47,50]⟩,.int .i64 0])/\Below w.heap.size w w' :=
  ex_of (by exact resR_val 6 false 4 true 3 true 2 _ (by decide) (by decide) (by decide) (by decide) (by decide) (by simp [frText,sgText,decDigits])) (real_ok ⟨#[54]⟩ ⟨#[45,52]⟩ w hg (by decide) (by decide) (by decide))
theorem ex_addReal (w : World) (hg : Gl w) : Calls Tryz.prog 35 #[.string ⟨#[49,47,50]⟩,.string ⟨#[49,47,51]⟩] w fun e w'=>e = .returned (.tuple #[.string ⟨#[53,47,54]⟩,.int .i64 0])/\Below w.heap.size w w' :=
  ex_of (by exact resR_val 5 false 6 false 5 false 6 _ (by decide) (by decide) (by decide) (by decide) (by decide) (by simp [frText,sgText,decDigits])) (addReal_ok ⟨#[49,47,50]⟩ ⟨#[49,47,51]⟩ (by decide) (by decide) (by decide) (by decide) w hg)
theorem ex_subReal (w : World) (hg : Gl w) : Calls Tryz.prog 37 #[.string ⟨#[49,47,50]⟩,.string ⟨#[49,47,50]⟩] w fun e w'=>e = .returned (.tuple #[.string ⟨#[48,47,49]⟩,.int .i64 0])/\Below w.heap.size w w' :=
  ex_of (by exact resR_val 0 false 4 false 0 false 1 _ (by decide) (by decide) (by decide) (by decide) (by decide) (by simp [frText,sgText,decDigits])) (subReal_ok ⟨#[49,47,50]⟩ ⟨#[49,47,50]⟩ (by decide) (by decide) (by decide) (by decide) w hg)
theorem ex_mulReal (w : World) (hg : Gl w) : Calls Tryz.prog 39 #[.string ⟨#[50,47,51]⟩,.string ⟨#[51,47,52]⟩] w fun e w'=>e = .returned (.tuple #[.string ⟨#[49,47,50]⟩,.int .i64 0])/\Below w.heap.size w w' :=
  ex_of (by exact resR_val 6 false 12 false 1 false 2 _ (by decide) (by decide) (by decide) (by decide) (by decide) (by simp [frText,sgText,decDigits])) (mulReal_ok ⟨#[50,47,51]⟩ ⟨#[51,47,52]⟩ (by decide) (by decide) (by decide) (by decide) w hg)
theorem ex_divReal (w : World) (hg : Gl w) : Calls Tryz.prog 41 #[.string ⟨#[49,47,50]⟩,.string ⟨#[45,51,47,52]⟩] w fun e w'=>e = .returned (.tuple #[.string ⟨#[45,50,47,51]⟩,.int .i64 0])/\Below w.heap.size w w' :=
  ex_of (by exact resR_val 4 false 6 true 2 true 3 _ (by decide) (by decide) (by decide) (by decide) (by decide) (by simp [frText,sgText,decDigits])) (divReal_ok ⟨#[49,47,50]⟩ ⟨#[45,51,47,52]⟩ (by decide) (by decide) w hg (by decide) (by decide) (by decide))
theorem ex_dm1 (w : World) (hg : Gl w) : Calls Tryz.prog 27 #[.string ⟨#[45,55]⟩,.string ⟨#[50]⟩] w fun e w'=>e = .returned (.tuple #[.string ⟨#[45,52]⟩,.string ⟨#[49]⟩,.int .i64 0])/\Below w.heap.size w w' :=
  ex_of (by show Value.tuple #[.string ⟨(sgText 4 true).toArray⟩,.string ⟨(sgText 1 false).toArray⟩,.int .i64 0] = _;simp [sgText,decDigits]) (divMod_ok ⟨#[45,55]⟩ ⟨#[50]⟩ w hg (by decide) (by decide) (by decide) (fitsV_fit (by decide)) (fitsV_fit (by decide)))
theorem ex_dm2 (w : World) (hg : Gl w) : Calls Tryz.prog 27 #[.string ⟨#[45,55]⟩,.string ⟨#[45,50]⟩] w fun e w'=>e = .returned (.tuple #[.string ⟨#[52]⟩,.string ⟨#[49]⟩,.int .i64 0])/\Below w.heap.size w w' :=
  ex_of (by show Value.tuple #[.string ⟨(sgText 4 false).toArray⟩,.string ⟨(sgText 1 false).toArray⟩,.int .i64 0] = _;simp [sgText,decDigits]) (divMod_ok ⟨#[45,55]⟩ ⟨#[45,50]⟩ w hg (by decide) (by decide) (by decide) (fitsV_fit (by decide)) (fitsV_fit (by decide)))
theorem ex_dm3 (w : World) (hg : Gl w) : Calls Tryz.prog 27 #[.string ⟨#[55]⟩,.string ⟨#[45,50]⟩] w fun e w'=>e = .returned (.tuple #[.string ⟨#[45,51]⟩,.string ⟨#[49]⟩,.int .i64 0])/\Below w.heap.size w w' :=
  ex_of (by show Value.tuple #[.string ⟨(sgText 3 true).toArray⟩,.string ⟨(sgText 1 false).toArray⟩,.int .i64 0] = _;simp [sgText,decDigits]) (divMod_ok ⟨#[55]⟩ ⟨#[45,50]⟩ w hg (by decide) (by decide) (by decide) (fitsV_fit (by decide)) (fitsV_fit (by decide)))
theorem ex_dm0 (w : World) (hg : Gl w) : Calls Tryz.prog 27 #[.string ⟨#[55]⟩,.string ⟨#[48]⟩] w fun e w'=>e = .returned (.tuple #[.string ⟨#[]⟩,.string ⟨#[]⟩,.int .i64 30])/\Below w.heap.size w w' :=
  ex_of (by rfl) (divMod_zero ⟨#[55]⟩ ⟨#[48]⟩ w hg (by decide) (by decide) (by decide))
theorem ex_pow (w : World) (hg : Gl w) : Calls Tryz.prog 31 #[.string ⟨#[45,50]⟩,.int .i64 5] w fun e w'=>e = .returned (.tuple #[.string ⟨#[45,51,50]⟩,.int .i64 0])/\Below w.heap.size w w' :=
  ex_of (by exact resT_val 32 true _ (by decide) (by simp [sgText,decDigits])) (pow_ok ⟨#[45,50]⟩ (by decide) 5 (by omega) (fun j hj=>digN_fit (by rcases (show j = 0 ∨ j = 1 ∨ j = 2 ∨ j = 3 ∨ j = 4 ∨ j = 5 by omega) with rfl | rfl | rfl | rfl | rfl | rfl <;> decide)) w hg)
theorem ex_floor (w : World) (hg : Gl w) : Calls Tryz.prog 53 #[.string ⟨#[45,51,47,50]⟩] w fun e w'=>e = .returned (.tuple #[.string ⟨#[45,50]⟩,.int .i64 0])/\Below w.heap.size w w' :=
  ex_of (by exact resT_val 2 true _ (by decide) (by simp [sgText,decDigits])) (floor_ok ⟨#[45,51,47,50]⟩ (by decide) w hg (by decide))
theorem ex_dec (w : World) (hg : Gl w) : Calls Tryz.prog 51 #[.string ⟨#[49,50,46,53,48]⟩] w fun e w'=>e = .returned (.tuple #[.string ⟨#[50,53,47,50]⟩,.int .i64 0])/\Below w.heap.size w w' :=
  ex_of (by exact resR_val 1250 false 100 false 25 false 2 _ (by decide) (by decide) (by decide) (by decide) (by decide) (by simp [frText,sgText,decDigits])) (fromDecimal_ok ⟨#[49,50,46,53,48]⟩ (by decide) w hg (by decide))
theorem ex_wrap (w : World) (hg : Gl w) : Calls Tryz.prog 55 #[.string ⟨#[45,49]⟩,.int .i64 8] w fun e w'=>e = .returned (.tuple #[.string ⟨#[50,53,53]⟩,.int .i64 0])/\Below w.heap.size w w' :=
  ex_of (by show Value.tuple #[.string ⟨(decDigits 255).toArray⟩,.int .i64 0] = _;simp [decDigits]) (wrap_ok ⟨#[45,49]⟩ (by decide) 8 (by omega) (by omega) w hg)
theorem ex_bAdd (w : World) (hg : Gl w) : Calls Tryz.prog 57 #[.int .i64 0,.int .i64 8,.string ⟨#[50,48,48]⟩,.string ⟨#[49,48,48]⟩] w fun e w'=>e = .returned (.tuple #[.string ⟨#[52,52]⟩,.int .i64 0])/\Below w.heap.size w w' :=
  ex_of (by show Value.tuple #[.string ⟨(decDigits 44).toArray⟩,.int .i64 0] = _;simp [decDigits]) (bits_ok 0 (by omega) 8 (by omega) (by omega) ⟨#[50,48,48]⟩ ⟨#[49,48,48]⟩ (by decide) (by decide) 200 100 rfl rfl (by decide) w hg)
theorem ex_bShl (w : World) (hg : Gl w) : Calls Tryz.prog 57 #[.int .i64 8,.int .i64 8,.string ⟨#[49]⟩,.string ⟨#[56]⟩] w fun e w'=>e = .returned (.tuple #[.string ⟨#[48]⟩,.int .i64 0])/\Below w.heap.size w w' :=
  ex_of (by show Value.tuple #[.string ⟨(decDigits 0).toArray⟩,.int .i64 0] = _;simp [decDigits]) (bits_ok 8 (by omega) 8 (by omega) (by omega) ⟨#[49]⟩ ⟨#[56]⟩ (by decide) (by decide) 1 8 rfl rfl (by decide) w hg)
theorem ex_bXor (w : World) (hg : Gl w) : Calls Tryz.prog 57 #[.int .i64 7,.int .i64 8,.string ⟨#[49,50]⟩,.string ⟨#[49,48]⟩] w fun e w'=>e = .returned (.tuple #[.string ⟨#[54]⟩,.int .i64 0])/\Below w.heap.size w w' :=
  ex_of (by show Value.tuple #[.string ⟨(decDigits 6).toArray⟩,.int .i64 0] = _;simp [decDigits]) (bits_ok 7 (by omega) 8 (by omega) (by omega) ⟨#[49,50]⟩ ⟨#[49,48]⟩ (by decide) (by decide) 12 10 rfl rfl (by decide) w hg)
theorem ex_cmp (w : World) (hg : Gl w) : Calls Tryz.prog 29 #[.string ⟨#[45,53]⟩,.string ⟨#[51]⟩] w fun e w'=>e = .returned (.tuple #[.int .i64 (-1),.int .i64 0])/\Below w.heap.size w w' :=
  ex_of (by rfl) (compare_ok ⟨#[45,53]⟩ ⟨#[51]⟩ (by decide) (by decide) w hg)
theorem ex_cmpReal (w : World) (hg : Gl w) : Calls Tryz.prog 43 #[.string ⟨#[49,47,51]⟩,.string ⟨#[49,47,52]⟩] w fun e w'=>e = .returned (.tuple #[.int .i64 1,.int .i64 0])/\Below w.heap.size w w' :=
  ex_of (by show Value.tuple #[.int .i64 (cmpF 1 false 3 1 false 4),.int .i64 0] = _;rw [show cmpF 1 false 3 1 false 4 = 1 from by decide]) (compareReal_ok ⟨#[49,47,51]⟩ ⟨#[49,47,52]⟩ (by decide) (by decide) w hg (by decide) (by decide))
theorem ex_toInt (w : World) (_hg : Gl w) : Calls Tryz.prog 16 #[.string ⟨#[45,52,50]⟩] w fun e w'=>e = .returned (.tuple #[.int .i64 (-42),.int .i64 0])/\Below w.heap.size w w' :=
  toInt_ok ⟨#[45,52,50]⟩ (by decide) (-42) (by rfl) w
theorem ex_neg (w : World) (hg : Gl w) : Calls Tryz.prog 18 #[.string ⟨#[48]⟩] w fun e w'=>e = .returned (.tuple #[.string ⟨#[48]⟩,.int .i64 0])/\Below w.heap.size w w' :=
  ex_of (by exact resT_val 0 false _ (by decide) (by simp [sgText,decDigits])) (neg_ok ⟨#[48]⟩ (by decide) w hg)
theorem ex_ck7 (w : World) (_hg : Gl w) : Calls Tryz.prog 12 #[.string ⟨#[48,48,55]⟩] w fun e w'=>e = .returned (.int .i64 1)/\Below w.heap.size w w' :=
  ex_of (by show Value.int .i64 (ckL [48,48,55]) = _;rw [show ckL [48,48,55] = 1 from by decide]) (check_any ⟨#[48,48,55]⟩ w)
theorem ex_ck0 (w : World) (_hg : Gl w) : Calls Tryz.prog 12 #[.string ⟨#[45,48]⟩] w fun e w'=>e = .returned (.int .i64 1)/\Below w.heap.size w w' :=
  ex_of (by show Value.int .i64 (ckL [45,48]) = _;rw [show ckL [45,48] = 1 from by decide]) (check_any ⟨#[45,48]⟩ w)
theorem ex_ckReal (w : World) (hg : Gl w) : Calls Tryz.prog 45 #[.string ⟨#[50,47,52]⟩] w fun e w'=>e = .returned (.int .i64 1)/\Below w.heap.size w w' :=
  ex_of (by show Value.int .i64 (ckR [50,47,52]) = _;rw [show ckR [50,47,52] = 1 from by decide]) (checkReal_any ⟨#[50,47,52]⟩ (by decide) w hg)
theorem ex_fromInt (w : World) (hg : Gl w) : Calls Tryz.prog 14 #[.int .i64 (-9)] w fun e w'=>e = .returned (.string ⟨#[45,57]⟩)/\Below w.heap.size w w' :=
  ex_of (by simp [Lib.itoa,decDigits]) (fromInt_any (-9) (by omega) (by omega) w hg)
def nines : ByteArray:=⟨(Lib.repeatL [57] 120).toArray⟩
theorem nines_list : nines.data.toList = List.replicate 120 57:=by
  have h : ∀ n,Lib.repeatL [57] n = List.replicate n 57:=fun n=>by
    induction n with
    | zero=>simp [Lib.repeatL]
    | succ n ih=>simp [Lib.repeatL,ih,List.replicate_succ]
  unfold nines;simp [h]
theorem nines_size : nines.size = 120:=by
  unfold nines;rw [str_size,Lib.repeatL_length];rfl
theorem ex_rep (w : World) : Calls Tryz.prog 62 #[.string ⟨#[57]⟩,.int .i64 120] w fun e w'=>e = .returned (.string nines)/\Below w.heap.size w w' :=
  Tryz.strings_Repeat ⟨#[57]⟩ 120 w (by omega) (by decide)
theorem nD_pow : ∀ k : Nat,nDigits (10 ^ k) = k + 1
  | 0=>nD_one 1 (by omega)
  | k + 1=>by
    rw [nD_step _ (by have : 0 < 10 ^ k:=Nat.pow_pos (by omega);rw [Nat.pow_succ];omega),Nat.pow_succ,Nat.mul_div_cancel _ (by omega),nD_pow k]
set_option maxRecDepth 100000 in
theorem nines_val : intM (List.replicate 120 57) = 10 ^ 120 - 1:=by decide
set_option maxRecDepth 100000 in
theorem ex_big (w : World) (hg : Gl w) : Calls Tryz.prog 21 #[.string nines,.string ⟨#[49]⟩] w fun e w'=>e = .returned (.tuple #[.string ⟨#[]⟩,.int .i64 4])/\Below w.heap.size w w':=by
  have h:=add_ok nines ⟨#[49]⟩ (by rw [nines_list];decide) (by decide) w hg
  rw [nines_list,nines_val,show intS (List.replicate 120 57) = false from by unfold intS;rfl] at h
  have e : addR (10 ^ 120 - 1) false (intM [49]) (intS [49]) = (10 ^ 120,false):=by
    unfold addR;rw [if_pos (by decide),show intM [49] = 1 from rfl,Nat.sub_add_cancel (by decide)];rfl
  change Calls Tryz.prog 21 _ w (fun e w'=>e = .returned (resT (addR (10 ^ 120 - 1) false (intM [49]) (intS [49])).1 (addR (10 ^ 120 - 1) false (intM [49]) (intS [49])).2)/\Below w.heap.size w w') at h
  rw [e] at h
  have hd : digN (10 ^ 120) = 121:=by unfold digN;rw [if_neg (by decide),nD_pow]
  have : resT (10 ^ 120) false = .tuple #[.string ⟨#[]⟩,.int .i64 4]:=by
    unfold resT fitsV;rw [hd,if_neg (by omega),if_pos (by omega)]
  rw [this] at h
  exact h
set_option maxRecDepth 100000 in
theorem ex_ckBig (w : World) (_hg : Gl w) : Calls Tryz.prog 12 #[.string (nines ++ ⟨#[57]⟩)] w fun e w'=>e = .returned (.int .i64 4)/\Below w.heap.size w w':=by
  have h:=check_any (nines ++ ⟨#[57]⟩) w
  rw [show (nines ++ ⟨#[57]⟩ : ByteArray).data.toList = List.replicate 121 57 by
    have : (nines ++ ⟨#[57]⟩ : ByteArray).data.toList = nines.data.toList ++ [57]:=by simp
    rw [this,nines_list,<- List.replicate_succ'],show ckL (List.replicate 121 57) = 4 from by decide] at h
  exact h
end
end Go.Proofs.YtpbegoflpfdajaaGreatDoor
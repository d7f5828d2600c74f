/- WHAT IS PROVED: contracts of functions of the numbers package and laws for them, used by the last text of this claim. CONDITIONS: stated at each theorem. -/
import Derived.Test.YtpbegoflpfdajaaGreatDoorM30
namespace Go.Proofs.YtpbegoflpfdajaaGreatDoor
open Go.RowKit

def dcW (l : List UInt8) : List UInt8:=(Lib.cut l [46]).1
def dcP (l : List UInt8) : List UInt8:=(Lib.cut l [46]).2.1
def dcF (l : List UInt8) : Bool:=(Lib.cut l [46]).2.2 && areDig (dcW l) && areDig (dcP l)
theorem cutDot_any (s : ByteArray) (hs : s.size < 4294967281) (w : World) (hg : Gl w) :
    Calls Tryz.prog 113 #[.string s,.string ⟨#[46]⟩] w fun e w'=>e = .returned (.tuple #[.string ⟨(dcW s.data.toList).toArray⟩,.string ⟨(dcP s.data.toList).toArray⟩,.bool (Lib.cut s.data.toList [46]).2.2])/\Below w.heap.size w w':=by
  obtain ⟨m,hm⟩:=hg.ml
  refine (Tryz.strings_Cut s ⟨#[46]⟩ m w hs hm).mono ?_
  rintro e w' ⟨rfl,n,rfl⟩
  exact ⟨rfl,below_drewN (Below.refl _ _)⟩

set_option maxHeartbeats 2000000 in
theorem decimalParts_any (x : ByteArray) (hx : x.size < 4294967281) (w : World) (hg : Gl w) :
    Calls Tryz.prog 119 #[.string x] w fun e w'=>e = .returned (.tuple #[.string ⟨(dcW x.data.toList).toArray⟩,.string ⟨(dcP x.data.toList).toArray⟩,.bool (dcF x.data.toList)])/\Below w.heap.size w w':=by
  have cc:=fun w g=>cutDot_any x hx w g
  have ca:=fun w=>areDigits_any ⟨(dcW x.data.toList).toArray⟩ w
  have cb:=fun w=>areDigits_any ⟨(dcP x.data.toList).toArray⟩ w
  change ∀ w,Calls Tryz.prog 63 _ w (fun e w'=>e = .returned (.bool (areDig (dcW x.data.toList)))/\Below w.heap.size w w') at ca
  change ∀ w,Calls Tryz.prog 63 _ w (fun e w'=>e = .returned (.bool (areDig (dcP x.data.toList)))/\Below w.heap.size w w') at cb
  unfold dcF
  obtain ⟨fb,hfb⟩ : ∃ b,(Lib.cut x.data.toList [46]).2.2 = b:=⟨_,rfl⟩
  obtain ⟨f1,hf1⟩ : ∃ b,areDig (dcW x.data.toList) = b:=⟨_,rfl⟩
  obtain ⟨f2,hf2⟩ : ∃ b,areDig (dcP x.data.toList) = b:=⟨_,rfl⟩
  rw [hfb] at cc ⊢
  rw [hf1] at ca ⊢
  rw [hf2] at cb ⊢
  obtain ⟨U,hU⟩ : ∃ U : ByteArray,⟨(dcW x.data.toList).toArray⟩ = U:=⟨_,rfl⟩
  obtain ⟨V,hV⟩ : ∃ V : ByteArray,⟨(dcP x.data.toList).toArray⟩ = V:=⟨_,rfl⟩
  rw [hU] at cc ca ⊢
  rw [hV] at cc cb ⊢
  have HG:=Lib.hid hg;have Cc:=Lib.hid cc;have Ca:=Lib.hid ca;have Cb:=Lib.hid cb
  clear cc ca cb hfb hf1 hf2 hU hV hg hx
  cases fb with
  | false =>
    go_enter Tryz.func119,Tryz.ntmps119
    go_wp2_with (first
      | (go_at_call 113;(with_reducible refine (Cc.out _ HG.out).mono ?_);rintro e w1 ⟨rfl,hb1⟩;have HB1:=Lib.hid hb1;clear hb1))
    go_ret3
    exact ⟨rfl,HB1.out⟩
  | true =>
    cases f1 with
    | false =>
      go_enter Tryz.func119,Tryz.ntmps119
      go_wp2_with (first
        | (go_at_call 113;(with_reducible refine (Cc.out _ HG.out).mono ?_);rintro e w1 ⟨rfl,hb1⟩;have HB1:=Lib.hid hb1;clear hb1)
        | (go_at_call 63;(with_reducible refine (Ca.out _).mono ?_);rintro e w2 ⟨rfl,hb2⟩;have HB2:=Lib.hid (HB1.out.trans (hb2.mono HB1.out.size));clear hb2 Ca))
      go_ret3
      exact ⟨rfl,HB2.out⟩
    | true =>
      go_enter Tryz.func119,Tryz.ntmps119
      go_wp2_with (first
        | (go_at_call 113;(with_reducible refine (Cc.out _ HG.out).mono ?_);rintro e w1 ⟨rfl,hb1⟩;have HB1:=Lib.hid hb1;clear hb1)
        | (go_at_call 63;(with_reducible refine (Ca.out _).mono ?_);rintro e w2 ⟨rfl,hb2⟩;have HB2:=Lib.hid (HB1.out.trans (hb2.mono HB1.out.size));clear hb2 Ca)
        | (go_at_call 63;(with_reducible refine (Cb.out _).mono ?_);rintro e w3 ⟨rfl,hb3⟩;have HB3:=Lib.hid (HB2.out.trans (hb3.mono HB2.out.size));clear hb3))
      go_ret3
      exact ⟨by cases f2 <;> rfl,HB3.out⟩

theorem rep_zeros : ∀ n : Nat,Lib.repeatL [48] n = List.replicate n 48
  | 0=>by simp [Lib.repeatL]
  | n + 1=>by simp [Lib.repeatL,rep_zeros n,List.replicate_succ]
def tenL (n : Nat) : List UInt8:=49 :: List.replicate n 48
theorem valL_ten : ∀ n : Nat,valL (tenL n) = 10 ^ n
  | 0=>by decide
  | n + 1=>by
    have h : tenL (n + 1) = tenL n ++ [48]:=by unfold tenL;rw [List.replicate_succ',List.cons_append]
    rw [h,valL_snoc,valL_ten n,Nat.pow_succ];rfl
theorem ten_dig (n : Nat) (hn : n <= 200) : AllDig (tenL n):=by
  refine ⟨by simp [tenL];omega,fun i h=>?_⟩
  have : (tenL n)[i] = 49 ∨ (tenL n)[i] = 48:=by
    cases i with
    | zero=>exact Or.inl rfl
    | succ i=>refine Or.inr ?_;simp [tenL]
  rcases this with h1 | h1 <;> rw [h1] <;> decide
theorem areDig_all {l : List UInt8} (h : areDig l = true) (hl : l.length <= 270) : AllDig l/\0 < l.length:=by
  unfold areDig at h
  rw [Bool.and_eq_true,List.all_eq_true] at h
  refine ⟨⟨hl,fun i hi=>by have:=h.1 l[i] (List.getElem_mem _);simpa [isDig] using this⟩,?_⟩
  cases hh : l with
  | nil=>rw [hh] at h;simp at h
  | cons c r=>simp
theorem dig_app {a b : List UInt8} (ha : AllDig a) (hb : AllDig b) (h : (a ++ b).length <= 270) : AllDig (a ++ b):=by
  refine ⟨h,fun i hi=>?_⟩
  by_cases hh : i < a.length
  · rw [List.getElem_append_left hh];exact ha.2 i hh
  · rw [List.getElem_append_right (by omega)];exact hb.2 _ _
theorem val14 {l : List UInt8} (h : AllDig l) (hl : l.length <= 126) : valL l < bb ^ 14:=by
  have h1:=valL_lt l (fun c hc=>by
    obtain ⟨i,hi,rfl⟩:=List.getElem_of_mem hc
    simp only [isDig,decide_eq_true_eq]
    exact h.2 i hi)
  have h2 : 10 ^ l.length <= bb ^ 14:=by rw [bb_ten,<- Nat.pow_mul];exact Nat.pow_le_pow_right (by omega) (by omega)
  omega
theorem one_zeros (T : ByteArray) (n : Nat) (h : ⟨(Lib.repeatL [48] n).toArray⟩ = T) : (⟨#[49]⟩ ++ T : ByteArray).data.toList = tenL n:=by
  subst h
  rw [rep_zeros]
  simp [tenL]
theorem str_size (l : List UInt8) : (⟨l.toArray⟩ : ByteArray).size = l.length:=by show l.toArray.size = _;rw [List.size_toArray]
theorem dcW_le (x : ByteArray) : (dcW x.data.toList).length <= x.size:=by
  have h2 : x.size = x.data.toList.length:=by show x.data.size = x.data.toList.length;rw [Array.length_toList]
  unfold dcW Lib.cut;rw [h2];split
  · simp;omega
  · simp
theorem dcP_le (x : ByteArray) : (dcP x.data.toList).length <= x.size:=by
  have h2 : x.size = x.data.toList.length:=by show x.data.size = x.data.toList.length;rw [Array.length_toList]
  unfold dcP Lib.cut;rw [h2];split
  · simp
  · simp
def ckD (l : List UInt8) : Int:=if dcF l = false then 1 else if 120 < (dcW l).length + (dcP l).length then 4 else 0

set_option maxHeartbeats 2000000 in
theorem fromDecimal_err (x : ByteArray) (hx : x.size < 4294967281) (w : World) (hg : Gl w) (h : ckD x.data.toList ≠ 0) : Calls Tryz.prog 51 #[.string x] w fun e w'=>e = .returned (errT (ckD x.data.toList))/\Below w.heap.size w w':=by
  have cc:=decimalParts_any x hx w hg
  have s1:=str_size (dcW x.data.toList)
  have s2:=str_size (dcP x.data.toList)
  unfold ckD at h ⊢
  obtain ⟨f,hf⟩ : ∃ b,dcF x.data.toList = b:=⟨_,rfl⟩
  rw [hf] at cc h ⊢
  obtain ⟨U,hU⟩ : ∃ U : ByteArray,⟨(dcW x.data.toList).toArray⟩ = U:=⟨_,rfl⟩
  obtain ⟨V,hV⟩ : ∃ V : ByteArray,⟨(dcP x.data.toList).toArray⟩ = V:=⟨_,rfl⟩
  rw [hU,hV] at cc
  rw [hU] at s1
  rw [hV] at s2
  have Cc:=Lib.hid cc
  cases f with
  | false =>
    rw [if_pos rfl]
    clear cc h s1 s2 hU hV hf hg hx
    go_enter Tryz.func51,Tryz.ntmps51
    go_wp2_with (first
      | (go_at_call 119;(with_reducible refine (Cc.out).mono ?_);rintro e w1 ⟨rfl,hb1⟩;have HB1:=Lib.hid hb1;clear hb1))
    go_ret2
    exact ⟨rfl,HB1.out⟩
  | true =>
    rw [if_neg (by simp)] at h ⊢
    by_cases hl : 120 < (dcW x.data.toList).length + (dcP x.data.toList).length
    · rw [if_pos hl]
      have td : decide ((U.size : Int) + (V.size : Int) > 120) = true:=by simp;omega
      have su : U.size <= x.size:=by rw [s1];exact dcW_le x
      have sv : V.size <= x.size:=by rw [s2];exact dcP_le x
      have u1 : U.size < 4294967281:=by omega
      have u2 : V.size < 4294967281:=by omega
      clear cc h s1 s2 hU hV hf hg hx hl su sv
      go_enter Tryz.func51,Tryz.ntmps51
      go_wp2_with (first
        | (go_at_call 119;(with_reducible refine (Cc.out).mono ?_);rintro e w1 ⟨rfl,hb1⟩;have HB1:=Lib.hid hb1;clear hb1))
      go_ret2
      exact ⟨rfl,HB1.out⟩
    · rw [if_neg hl] at h;exact absurd rfl h
set_option maxHeartbeats 4000000 in
set_option maxRecDepth 20000 in
theorem fromDecimal_ok (x : ByteArray) (hx : x.size < 4294967281) (w : World) (hg : Gl w) (h : ckD x.data.toList = 0) : Calls Tryz.prog 51 #[.string x] w fun e w'=>e = .returned (resR (valL (dcW x.data.toList ++ dcP x.data.toList)) false (10 ^ (dcP x.data.toList).length) false)/\Below w.heap.size w w':=by
  have cc:=decimalParts_any x hx w hg
  unfold ckD at h
  split at h
  · omega
  · rename_i hf
    split at h
    · omega
    · rename_i hl
      have hf : dcF x.data.toList = true:=by simpa using hf
      rw [hf] at cc
      have hff:=hf
      unfold dcF at hff
      rw [Bool.and_eq_true,Bool.and_eq_true] at hff
      have d1:=areDig_all hff.1.2 (by omega)
      have d2:=areDig_all hff.2 (by omega)
      have d3:=dig_app d1.1 d2.1 (by rw [List.length_append];omega)
      have v3:=val14 d3 (by rw [List.length_append];omega)
      have dt:=ten_dig (dcP x.data.toList).length (by omega)
      have v4 : 10 ^ (dcP x.data.toList).length < bb ^ 14:=by rw [<- valL_ten];exact val14 dt (by simp [tenL];omega)
      have s1:=str_size (dcW x.data.toList)
      have s2:=str_size (dcP x.data.toList)
      have cr:=fun w=>Tryz.strings_Repeat ⟨#[48]⟩ (dcP x.data.toList).length w (by omega) (by show 1 * _ <= _;omega)
      change ∀ w,Calls Tryz.prog 62 _ w (fun e w'=>e = .returned (.string ⟨(Lib.repeatL [48] (dcP x.data.toList).length).toArray⟩)/\Below w.heap.size w w') at cr
      have st:=str_size (Lib.repeatL [48] (dcP x.data.toList).length)
      rw [rep_zeros,List.length_replicate,<- rep_zeros] at st
      obtain ⟨T,hT⟩ : ∃ T : ByteArray,⟨(Lib.repeatL [48] (dcP x.data.toList).length).toArray⟩ = T:=⟨_,rfl⟩
      have h1:=one_zeros T _ hT
      rw [hT] at cr st
      have cp1:=fun w g=>parseMag_any (⟨#[49]⟩ ++ T) (by rw [h1];exact dt) w g
      rw [h1,valL_ten] at cp1
      have hUV : (⟨(dcW x.data.toList).toArray⟩ ++ ⟨(dcP x.data.toList).toArray⟩ : ByteArray).data.toList = dcW x.data.toList ++ dcP x.data.toList:=by simp
      have cp2:=fun w g=>parseMag_any (⟨(dcW x.data.toList).toArray⟩ ++ ⟨(dcP x.data.toList).toArray⟩) (by rw [hUV];exact d3) w g
      rw [hUV] at cp2
      generalize valL (dcW x.data.toList ++ dcP x.data.toList) = p at *
      obtain ⟨n,hn⟩ : ∃ n,(dcP x.data.toList).length = n:=⟨_,rfl⟩
      rw [hn] at cr cp1 v4 s2 st ⊢
      have hp10 : 0 < 10 ^ n:=Nat.pow_pos (by omega)
      generalize 10 ^ n = q at *
      have cn1:=fun w=>number_any p false (big_of v3) w
      change ∀ w,Calls Tryz.prog 93 _ w (fun e w'=>e = .returned (.agg (sgL p false).toArray)/\Below w.heap.size w w') at cn1
      have cn2:=fun w=>number_any q false (big_of v4) w
      change ∀ w,Calls Tryz.prog 93 _ w (fun e w'=>e = .returned (.agg (sgL q false).toArray)/\Below w.heap.size w w') at cn2
      have c3:=fun w=>ratio_any p false q false (up29 v3) (up29 v4) hp10 w
      have c4:=fun w g=>fracResult_any (p / Nat.gcd p q) (ratS p false false && !decide (p / Nat.gcd p q = 0)) (q / Nat.gcd p q) false (rat_lt30 (up29 v3)) (rat_lt30 (up29 v4)) w g
      change ∀ w,Gl w->Calls Tryz.prog 109 _ w (fun e w'=>e = .returned (resR p false q false)/\Below w.heap.size w w') at c4
      obtain ⟨R,hR⟩ : ∃ R,resR p false q false = R:=⟨_,rfl⟩
      have hR2 : ∃ a b,R = .tuple #[a,b]:=⟨_,_,hR.symm⟩
      rw [hR] at c4 ⊢
      obtain ⟨ra,rb,rfl⟩:=hR2
      generalize Value.agg (frL (p / Nat.gcd p q) (ratS p false false && !decide (p / Nat.gcd p q = 0)) (q / Nat.gcd p q) false).toArray = V3 at c3 c4
      obtain ⟨U,hU⟩ : ∃ U : ByteArray,⟨(dcW x.data.toList).toArray⟩ = U:=⟨_,rfl⟩
      obtain ⟨V,hV⟩ : ∃ V : ByteArray,⟨(dcP x.data.toList).toArray⟩ = V:=⟨_,rfl⟩
      rw [hU,hV] at cc cp2
      rw [hU] at s1
      rw [hV] at s2
      have hlu : U.size + V.size <= 120:=by omega
      have hvn : (V.size : Int) = (n : Int):=by omega
      have htn : T.size <= 120:=by omega
      have td : decide ((U.size : Int) + (V.size : Int) > 120) = false:=by simp;omega
      have tn : decide ((U.size : Int) + (n : Int) > 120) = false:=by simp;omega
      have HG:=Lib.hid hg
      have Cc:=Lib.hid cc;have Cr:=Lib.hid cr;have Cp1:=Lib.hid cp1;have Cp2:=Lib.hid cp2;have Cn1:=Lib.hid cn1;have Cn2:=Lib.hid cn2;have C3:=Lib.hid c3;have C4:=Lib.hid c4
      clear cc cr cp1 cp2 cn1 cn2 c3 c4 hU hV hR h1 hT hf hff d1 d2 d3 v3 dt v4 s1 s2 st hUV hp10 hg hx h hl
      go_enter Tryz.func51,Tryz.ntmps51
      go_wp2_with (first
        | (go_at_call 119;(with_reducible refine (Cc.out).mono ?_);rintro e w1 ⟨rfl,hb1⟩;have HB1:=Lib.hid hb1;clear hb1)
        | (go_at_call 62;(with_reducible refine (Cr.out _).mono ?_);rintro e w2 ⟨rfl,hb2⟩;have HB2:=Lib.hid (HB1.out.trans (hb2.mono HB1.out.size));have HG2:=Lib.hid (HG.out.keep HB2.out);clear hb2)
        | (go_at_call 120;(with_reducible refine (Cp1.out _ HG2.out.pow).mono ?_);rintro e w3 ⟨rfl,hb3⟩;have HB3:=Lib.hid (HB2.out.trans (hb3.mono HB2.out.size));clear hb3)
        | ((with_reducible refine al_zb 86 _ w3.heap.size ?_ ?_ z86 ?_);(· exact ⟨rfl,rfl⟩);· rfl)
        | ((with_reducible refine st86 w3.heap.size 0 q ?_ ?_ ?_);(· exact ⟨rfl,_,_,rfl,rfl,rfl⟩);· exact there_at rfl _ 86 (by rw [mgL_len])))
      try simp only [Act.put,List.setIfInBounds_toArray,List.set_cons_zero,List.set_cons_succ]
      have HBx:=Lib.hid ((HB3.out.trans ((nw1_old w3 q).mono HB3.out.size)).drew)
      have HRx:=Lib.hid (show (nw1 w3 q).drew.rangeAt w3.heap.size 0 (mgL q) from nw1_at w3 q)
      refine wp_region_held_drew (S:=(fun w'=>Below w.heap.size w w'/\w'.rangeAt w3.heap.size 0 (mgL q))) (by kernel_rfl) ?_ (fun hH=>?_)
      · exact ⟨HBx.out,HRx.out⟩
      try dsimp only at hH
      refine wpAnyH_take (i:=0) (v:=(.string U)) rfl (by kernel_rfl) (by kernel_rfl) (by kernel_rfl) (fun _ _ _ h=>h) (Or.inl ⟨by rfl,fun wz hz=>by skip;go_simp⟩) hH ?_
      try simp only [Act.put,List.getElem_toArray,List.getElem_cons_zero,List.setIfInBounds_toArray,List.set_cons_zero,List.set_cons_succ]
      refine wpAnyH_take (i:=1) (v:=(.string V)) rfl (by kernel_rfl) (by kernel_rfl) (by kernel_rfl) (fun _ _ _ h=>h) (Or.inl ⟨by rfl,fun wz hz=>by skip;go_simp⟩) hH ?_
      try simp only [Act.put,List.getElem_toArray,List.getElem_cons_succ,List.getElem_cons_zero,List.setIfInBounds_toArray,List.set_cons_zero,List.set_cons_succ]
      refine wpAnyH_take (i:=2) (v:=(.string (U ++ V))) rfl (by kernel_rfl) (by kernel_rfl) (by kernel_rfl) (fun _ _ _ h=>h) (Or.inl ⟨by rfl,fun wz hz=>by skip;go_simp;omega⟩) hH ?_
      try simp only [Act.put,List.getElem_toArray,List.getElem_cons_succ,List.getElem_cons_zero,List.setIfInBounds_toArray,List.set_cons_zero,List.set_cons_succ]
      refine wpAnyH_take (i:=5) (v:=(.agg (mgL q).toArray)) rfl (by kernel_rfl) (by kernel_rfl) (by kernel_rfl) (fun _ _ _ h=>h) (yld86 w3.heap.size 0 q rfl ⟨_,rfl,rfl⟩ (fun wz hz=>hz.2)) hH ?_
      try simp only [Act.put,List.getElem_toArray,List.getElem_cons_succ,List.getElem_cons_zero,List.setIfInBounds_toArray,List.set_cons_zero,List.set_cons_succ]
      refine wpAnyH_ready (rs:=[3]) (by kernel_rfl) (by simp) ?_
      refine AllReadyH.cons rfl (fun K hK=>?_) AllReadyH.nil
      simp only [List.getElem_toArray,List.getElem_cons_succ,List.getElem_cons_zero]
      rw [if_pos (by rfl)]
      go_simp
      refine (Cp2.out _ (HG.out.keep hH.1).pow).mono ?_;rintro e w1 ⟨rfl,hb1⟩
      try simp only []
      refine hK.out _ _ ?_ (fun hH1=>?_)
      · exact ⟨(hH.1).trans (hb1.mono (hH.1).size),range_keep hH.2 hb1⟩
      clear hK K
      try simp only [Act.put,List.getElem_toArray,List.getElem_cons_succ,List.getElem_cons_zero,List.setIfInBounds_toArray,List.set_cons_zero,List.set_cons_succ]
      refine wpAnyH_ready (rs:=[4]) (by kernel_rfl) (by simp) ?_
      refine AllReadyH.cons rfl (fun K hK=>?_) AllReadyH.nil
      simp only [List.getElem_toArray,List.getElem_cons_succ,List.getElem_cons_zero]
      rw [if_pos (by rfl)]
      go_simp
      refine (Cn1.out _).mono ?_;rintro e w2 ⟨rfl,hb2⟩
      try simp only []
      refine hK.out _ _ ?_ (fun hH2=>?_)
      · exact ⟨(hH1.1).trans (hb2.mono (hH1.1).size),range_keep hH1.2 hb2⟩
      clear hK K
      try simp only [Act.put,List.getElem_toArray,List.getElem_cons_succ,List.getElem_cons_zero,List.setIfInBounds_toArray,List.set_cons_zero,List.set_cons_succ]
      refine wpAnyH_ready (rs:=[6]) (by kernel_rfl) (by simp) ?_
      refine AllReadyH.cons rfl (fun K hK=>?_) AllReadyH.nil
      simp only [List.getElem_toArray,List.getElem_cons_succ,List.getElem_cons_zero]
      rw [if_pos (by rfl)]
      go_simp
      refine (Cn2.out _).mono ?_;rintro e w3 ⟨rfl,hb3⟩
      try simp only []
      refine hK.out _ _ ?_ (fun hH3=>?_)
      · exact ⟨(hH2.1).trans (hb3.mono (hH2.1).size),range_keep hH2.2 hb3⟩
      clear hK K
      try simp only [Act.put,List.getElem_toArray,List.getElem_cons_succ,List.getElem_cons_zero,List.setIfInBounds_toArray,List.set_cons_zero,List.set_cons_succ]
      refine wpAnyH_ready (rs:=[7]) (by kernel_rfl) (by simp) ?_
      refine AllReadyH.cons rfl (fun K hK=>?_) AllReadyH.nil
      simp only [List.getElem_toArray,List.getElem_cons_succ,List.getElem_cons_zero]
      rw [if_pos (by rfl)]
      go_simp
      refine (C3.out _).mono ?_;rintro e w4 ⟨rfl,hb4⟩
      try simp only []
      refine hK.out _ _ ?_ (fun hH4=>?_)
      · exact ⟨(hH3.1).trans (hb4.mono (hH3.1).size),range_keep hH3.2 hb4⟩
      clear hK K
      try simp only [Act.put,List.getElem_toArray,List.getElem_cons_succ,List.getElem_cons_zero,List.setIfInBounds_toArray,List.set_cons_zero,List.set_cons_succ]
      refine wpAnyH_ready (rs:=[8]) (by kernel_rfl) (by simp) ?_
      refine AllReadyH.cons rfl (fun K hK=>?_) AllReadyH.nil
      simp only [List.getElem_toArray,List.getElem_cons_succ,List.getElem_cons_zero]
      rw [if_pos (by rfl)]
      go_simp
      refine (C4.out _ (HG.out.keep hH4.1)).mono ?_;rintro e w5 ⟨rfl,hb5⟩
      try simp only []
      refine hK.out _ _ ?_ (fun hH5=>?_)
      · exact ⟨(hH4.1).trans (hb5.mono (hH4.1).size),range_keep hH4.2 hb5⟩
      clear hK K
      try simp only [Act.put,List.getElem_toArray,List.getElem_cons_succ,List.getElem_cons_zero,List.setIfInBounds_toArray,List.set_cons_zero,List.set_cons_succ]
      refine wpAnyH_take (i:=9) (v:=ra) rfl (by kernel_rfl) (by kernel_rfl) (by kernel_rfl) (fun _ _ _ h=>h) (Or.inl ⟨by rfl,fun wz hz=>by skip;go_simp⟩) hH5 ?_
      try simp only [Act.put,List.getElem_toArray,List.getElem_cons_succ,List.getElem_cons_zero,List.setIfInBounds_toArray,List.set_cons_zero,List.set_cons_succ]
      refine wpAnyH_take (i:=10) (v:=rb) rfl (by kernel_rfl) (by kernel_rfl) (by kernel_rfl) (fun _ _ _ h=>h) (Or.inl ⟨by rfl,fun wz hz=>by skip;go_simp⟩) hH5 ?_
      try simp only [Act.put,List.getElem_toArray,List.getElem_cons_succ,List.getElem_cons_zero,List.setIfInBounds_toArray,List.set_cons_zero,List.set_cons_succ]
      refine wpAnyH_take (i:=11) (v:=ra) rfl (by kernel_rfl) (by kernel_rfl) (by kernel_rfl) (fun _ _ _ h=>h) (Or.inl ⟨by rfl,fun wz hz=>by skip;go_simp⟩) hH5 ?_
      try simp only [Act.put,List.getElem_toArray,List.getElem_cons_succ,List.getElem_cons_zero,List.setIfInBounds_toArray,List.set_cons_zero,List.set_cons_succ]
      refine wpAnyH_take (i:=12) (v:=rb) rfl (by kernel_rfl) (by kernel_rfl) (by kernel_rfl) (fun _ _ _ h=>h) (Or.inl ⟨by rfl,fun wz hz=>by skip;go_simp⟩) hH5 ?_
      try simp only [Act.put,List.getElem_toArray,List.getElem_cons_succ,List.getElem_cons_zero,List.setIfInBounds_toArray,List.set_cons_zero,List.set_cons_succ]
      refine wpAnyH_done (by kernel_rfl) ?_ _
      go_wp2
      go_ret2
      exact ⟨rfl,hH5.1⟩
end Go.Proofs.YtpbegoflpfdajaaGreatDoor

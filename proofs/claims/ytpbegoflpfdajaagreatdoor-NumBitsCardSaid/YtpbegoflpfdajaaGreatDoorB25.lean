/- WHAT IS PROVED: contracts of functions of the numbers package and laws for them, used by the last text of this claim. CONDITIONS: stated at each theorem. -/
import Derived.Test.YtpbegoflpfdajaaGreatDoorB24
namespace Go.Proofs.YtpbegoflpfdajaaGreatDoor
open Go.RowKit

def ckR (l : List UInt8) : Int :=
  if (Lib.cut l [47]).2.2 = false ∨ Lib.contains (loT l) [47] = true then 1
  else if firstE [ckL (upT l),ckL (loT l)] ≠ 0 then firstE [ckL (upT l),ckL (loT l)]
  else if intS (loT l) = true ∨ intM (loT l) = 0 ∨ Nat.gcd (intM (upT l)) (intM (loT l)) ≠ 1 then 1 else 0
theorem firstE_two {a b : Int} (h : firstE [a,b] = 0) : a = 0/\b = 0:=by
  unfold firstE at h
  split at h
  · rename_i ha
    unfold firstE at h
    split at h
    · rename_i hb;exact ⟨ha,hb⟩
    · contradiction
  · contradiction
theorem Gl.keep2 {w w' : World} {o : Obj} (h : Gl w) (hb : Below (w.alloc o).heap.size (w.alloc o) w') : Gl w' :=
  h.keep (((Below.refl w.heap.size w).alloc (Nat.le_refl _) o).trans (hb.mono (by simp)))
theorem below2 {w w' : World} {o : Obj} (hb : Below (w.alloc o).heap.size (w.alloc o) w') : Below w.heap.size w w' :=
  ((Below.refl w.heap.size w).alloc (Nat.le_refl _) o).trans (hb.mono (by simp))
theorem checks_two (U V : ByteArray) (w : World) (_hg : Gl w) : Calls Tryz.prog 85 #[.func (.func 12) #[] #[],.slice (some ⟨w.heap.size,0,none⟩) 2 2] (w.alloc (.cells #[.string U,.string V] 9)) fun e w'=>e = .returned (.int .i64 (firstE [ckL U.data.toList,ckL V.data.toList]))/\Below (w.alloc (.cells #[.string U,.string V] 9)).heap.size (w.alloc (.cells #[.string U,.string V] 9)) w':=by
  obtain ⟨a0,a1,a2,_⟩:=two_new (w:=w) (.string U) (.string V) 9
  exact firstOf_ints U V w.heap.size _ a0 a1 a2
theorem lowest_eq {p q : Nat} {s : Bool} (hs : s = true->p ≠ 0) (hq : 0 < q) : (decide (p = p / Nat.gcd p q) && (s == (s && !decide (p / Nat.gcd p q = 0))) && (decide (q = q / Nat.gcd p q) && (false == false))) = decide (Nat.gcd p q = 1):=by
  by_cases h : Nat.gcd p q = 1
  · simp only [h,Nat.div_one]
    cases s with
    | false=>simp
    | true=>have:=hs rfl;simp [this]
  · have hg : 0 < Nat.gcd p q:=Nat.gcd_pos_of_pos_right _ hq
    have h2 : q / Nat.gcd p q < q:=Nat.div_lt_self hq (by omega)
    rw [show decide (q = q / Nat.gcd p q) = false by simp;omega,show decide (Nat.gcd p q = 1) = false by simpa using h]
    simp
theorem intS_pos {l : List UInt8} (h : intS l = true) : intM l ≠ 0:=by
  unfold intS at h
  rw [Bool.and_eq_true] at h
  simpa using h.2

set_option maxHeartbeats 8000000 in
set_option maxRecDepth 20000 in
theorem checkReal_any (x : ByteArray) (hx : x.size < 4294967281) (w : World) (hg : Gl w) :
    Calls Tryz.prog 45 #[.string x] w fun e w'=>e = .returned (.int .i64 (ckR x.data.toList))/\Below w.heap.size w w':=by
  have cc:=fun w g=>cut_any x hx w g
  have hp:=fun h1 h2 w g=>parseFraction_any x hx h1 h2 w g
  have ct : ∀ w,Gl w->Calls Tryz.prog 114 #[.string ⟨(loT x.data.toList).toArray⟩,.string ⟨#[47]⟩] w fun e w'=>e = .returned (.bool (Lib.contains (loT x.data.toList) [47]))/\w' = w:=fun w g=>by
    obtain ⟨m,hm⟩:=g.ml
    refine Tryz.strings_Contains ⟨(loT x.data.toList).toArray⟩ ⟨#[47]⟩ m w ?_ hm
    have h1 : (loT x.data.toList).length <= x.data.toList.length:=by
      unfold loT Lib.cut;split
      · simp
      · simp
    have h2 : x.size = x.data.toList.length:=by show x.data.size = x.data.toList.length;rw [Array.length_toList]
    show (loT x.data.toList).toArray.size < _
    rw [List.size_toArray];omega
  have ce : ∀ w,Gl w->Calls Tryz.prog 85 #[.func (.func 12) #[] #[],.slice (some ⟨w.heap.size,0,none⟩) 2 2] (w.alloc (.cells #[.string ⟨(upT x.data.toList).toArray⟩,.string ⟨(loT x.data.toList).toArray⟩] 9)) fun e w'=>e = .returned (.int .i64 (firstE [ckL (upT x.data.toList),ckL (loT x.data.toList)]))/\Below (w.alloc (.cells #[.string ⟨(upT x.data.toList).toArray⟩,.string ⟨(loT x.data.toList).toArray⟩] 9)).heap.size (w.alloc (.cells #[.string ⟨(upT x.data.toList).toArray⟩,.string ⟨(loT x.data.toList).toArray⟩] 9)) w':=fun w g=>checks_two _ _ w g
  have hck : ckR x.data.toList = ckR x.data.toList:=rfl
  conv at hck=>rhs;unfold ckR
  obtain ⟨K,hK⟩ : ∃ K,ckR x.data.toList = K:=⟨_,rfl⟩
  rw [hK] at hck ⊢
  have hsp:=intS_pos (l:=upT x.data.toList)
  have hl1:=intM_small (upT x.data.toList)
  have hl2:=intM_small (loT x.data.toList)
  obtain ⟨fb,hfb⟩ : ∃ fb,(Lib.cut x.data.toList [47]).2.2 = fb:=⟨_,rfl⟩
  obtain ⟨ctn,hctn⟩ : ∃ b,Lib.contains (loT x.data.toList) [47] = b:=⟨_,rfl⟩
  rw [hfb] at cc hck
  rw [hctn] at ct hck
  obtain ⟨U,hU⟩ : ∃ U : ByteArray,⟨(upT x.data.toList).toArray⟩ = U:=⟨_,rfl⟩
  obtain ⟨V,hV⟩ : ∃ V : ByteArray,⟨(loT x.data.toList).toArray⟩ = V:=⟨_,rfl⟩
  rw [hU,hV] at cc ce
  rw [hV] at ct
  obtain ⟨e1,he1⟩ : ∃ e,ckL (upT x.data.toList) = e:=⟨_,rfl⟩
  obtain ⟨e2,he2⟩ : ∃ e,ckL (loT x.data.toList) = e:=⟨_,rfl⟩
  rw [he1,he2] at hp hck ce
  rw [he1] at hl1
  rw [he2] at hl2
  obtain ⟨E,hE⟩ : ∃ E,firstE [e1,e2] = E:=⟨_,rfl⟩
  rw [hE] at hck ce
  have h12 : E = 0->e1 = 0/\e2 = 0:=fun h=>firstE_two (hE.trans h)
  obtain ⟨a,ha⟩ : ∃ a,intM (upT x.data.toList) = a:=⟨_,rfl⟩
  obtain ⟨b,hb⟩ : ∃ b,intS (upT x.data.toList) = b:=⟨_,rfl⟩
  obtain ⟨c,hc⟩ : ∃ c,intM (loT x.data.toList) = c:=⟨_,rfl⟩
  obtain ⟨d,hd⟩ : ∃ d,intS (loT x.data.toList) = d:=⟨_,rfl⟩
  rw [ha,hb] at hp hsp
  rw [hc,hd] at hp
  rw [ha] at hl1
  rw [hc] at hl2
  rw [ha,hc,hd] at hck
  have HG:=Lib.hid hg
  have Cc:=Lib.hid cc;have Ct:=Lib.hid ct;have Ce:=Lib.hid ce
  clear cc ct ce hK hfb hctn hU hV he1 he2 hE ha hb hc hd hg hx
  by_cases hA : fb = false
  · subst hA
    rw [if_pos (Or.inl rfl)] at hck
    subst hck
    clear hp hsp hl1 hl2 h12
    go_enter Tryz.func45,Tryz.ntmps45
    go_wp2_with (first
      | (go_at_call 113;(with_reducible refine (Cc.out _ HG.out).mono ?_);rintro e w1 ⟨rfl,hb1⟩;have HB1:=Lib.hid hb1;have HG1:=Lib.hid (HG.out.keep hb1);clear hb1))
    go_ret
    exact ⟨rfl,HB1.out⟩
  · obtain rfl : fb = true:=by simpa using hA
    by_cases hB : ctn = true
    · subst hB
      rw [if_pos (Or.inr rfl)] at hck
      subst hck
      clear hp hsp hl1 hl2 h12 hA
      go_enter Tryz.func45,Tryz.ntmps45
      go_wp2_with (first
        | (go_at_call 113;(with_reducible refine (Cc.out _ HG.out).mono ?_);rintro e w1 ⟨rfl,hb1⟩;have HB1:=Lib.hid hb1;have HG1:=Lib.hid (HG.out.keep hb1);clear hb1)
        | (go_at_call 114;(with_reducible refine (Ct.out _ HG1.out).mono ?_);rintro e w2 ⟨rfl,rfl⟩))
      go_ret
      exact ⟨rfl,HB1.out⟩
    · obtain rfl : ctn = false:=by simpa using hB
      rw [if_neg (by simp)] at hck
      by_cases hC : E = 0
      · obtain ⟨rfl,rfl⟩:=h12 hC
        subst hC
        rw [if_neg (by simp)] at hck
        have Cp:=Lib.hid (hp rfl rfl)
        have hl1:=hl1 rfl
        have hl2:=hl2 rfl
        clear hp h12 hA hB
        have HL1:=Lib.hid hl1;have HL2:=Lib.hid hl2;have Hsp:=Lib.hid hsp
        clear hl1 hl2 hsp
        by_cases hD : d = true
        · subst hD
          rw [if_pos (Or.inl rfl)] at hck
          subst hck
          go_enter Tryz.func45,Tryz.ntmps45
          go_wp2_with (first
            | (go_at_call 113;(with_reducible refine (Cc.out _ HG.out).mono ?_);rintro e w1 ⟨rfl,hb1⟩;have HB1:=Lib.hid hb1;have HG1:=Lib.hid (HG.out.keep hb1);clear hb1)
            | (go_at_call 114;(with_reducible refine (Ct.out _ HG1.out).mono ?_);rintro e w2 ⟨rfl,rfl⟩)
            | (go_at_call 85;(with_reducible refine (Ce.out _ HG1.out).mono ?_);rintro e w3 ⟨rfl,hb3⟩;have HB3:=Lib.hid (HB1.out.trans ((below2 hb3).mono HB1.out.size));have HG3:=Lib.hid (HG1.out.keep2 hb3);clear hb3)
            | (go_at_call 107;(with_reducible refine (Cp.out _ HG3.out).mono ?_);rintro e w4 ⟨rfl,hb4⟩;have HB4:=Lib.hid (HB3.out.trans (hb4.mono HB3.out.size));clear hb4)
            | ((with_reducible refine al_zb 115 _ w4.heap.size ?_ ?_ z115 ?_);(· exact ⟨rfl,rfl⟩);· rfl)
            | ((with_reducible refine st115 w4.heap.size 0 a b c true ?_ ?_ ?_);(· exact ⟨rfl,_,_,rfl,rfl,rfl⟩);· exact there_at rfl _ 115 (by rw [frL_len])))
          try simp only [Act.put,List.setIfInBounds_toArray,List.set_cons_zero,List.set_cons_succ]
          have HBx:=Lib.hid ((below_set (HB4.out.alloc HB4.out.size (.cells (frL 0 false 0 false).toArray 115)) HB4.out.size 0 (frL a b c true)).drew)
          have HRx:=Lib.hid (show ((w4.alloc (.cells (frL 0 false 0 false).toArray 115)).setCells w4.heap.size 0 (frL a b c true)).drew.rangeAt w4.heap.size 0 (frL a b c true) from range_set (there_at rfl _ 115 (by rw [frL_len])) (by rw [frL_len]))
          refine wp_region_held_drew (S:=(fun w'=>Below w.heap.size w w'/\w'.rangeAt w4.heap.size 0 (frL a b c true))) (by kernel_rfl) ?_ (fun hH=>?_)
          · exact ⟨HBx.out,HRx.out⟩
          try dsimp only at hH
          refine wpAnyH_take (i:=0) (v:=(.pointer (some ⟨w4.heap.size,31,none⟩))) rfl (by kernel_rfl) (by kernel_rfl) (by kernel_rfl) (fun _ _ _ h=>h) (Or.inl ⟨by rfl,fun wz hz=>by skip;go_simp⟩) hH ?_
          try simp only [Act.put,List.getElem_toArray,List.getElem_cons_zero,List.setIfInBounds_toArray,List.set_cons_zero,List.set_cons_succ]
          refine wpAnyH_take (i:=1) (v:=(.pointer (some ⟨w4.heap.size,61,none⟩))) rfl (by kernel_rfl) (by kernel_rfl) (by kernel_rfl) (fun _ _ _ h=>h) (Or.inl ⟨by rfl,fun wz hz=>by skip;go_simp⟩) hH ?_
          try simp only [Act.put,List.getElem_toArray,List.getElem_cons_succ,List.getElem_cons_zero,List.setIfInBounds_toArray,List.set_cons_zero,List.set_cons_succ]
          refine wpAnyH_take (i:=2) (v:=(.bool true)) rfl (by kernel_rfl) (by kernel_rfl) (by kernel_rfl) (fun _ _ _ h=>h) (Or.inl ⟨by rfl,fun wz hz=>by have hc:=(range_frl hz.2).2.2.2;go_simp⟩) hH ?_
          try simp only [Act.put,List.getElem_toArray,List.getElem_cons_succ,List.getElem_cons_zero,List.setIfInBounds_toArray,List.set_cons_zero,List.set_cons_succ]
          refine wpAnyH_take (i:=3) (v:=(.bool true)) rfl (by kernel_rfl) (by kernel_rfl) (by kernel_rfl) (fun _ _ _ h=>h) (Or.inl ⟨by rfl,fun wz hz=>by skip;go_simp⟩) hH ?_
          try simp only [Act.put,List.getElem_toArray,List.getElem_cons_succ,List.getElem_cons_zero,List.setIfInBounds_toArray,List.set_cons_zero,List.set_cons_succ]
          refine wpAnyH_take (i:=4) (v:=undef) rfl (by kernel_rfl) (by kernel_rfl) (by kernel_rfl) (fun _ _ _ h=>h) (Or.inr ⟨by rfl,rfl⟩) hH ?_
          try simp only [Act.put,List.getElem_toArray,List.getElem_cons_succ,List.getElem_cons_zero,List.setIfInBounds_toArray,List.set_cons_zero,List.set_cons_succ]
          refine wpAnyH_take (i:=5) (v:=undef) rfl (by kernel_rfl) (by kernel_rfl) (by kernel_rfl) (fun _ _ _ h=>h) (Or.inr ⟨by rfl,rfl⟩) hH ?_
          try simp only [Act.put,List.getElem_toArray,List.getElem_cons_succ,List.getElem_cons_zero,List.setIfInBounds_toArray,List.set_cons_zero,List.set_cons_succ]
          refine wpAnyH_take (i:=6) (v:=undef) rfl (by kernel_rfl) (by kernel_rfl) (by kernel_rfl) (fun _ _ _ h=>h) (Or.inr ⟨by rfl,rfl⟩) hH ?_
          try simp only [Act.put,List.getElem_toArray,List.getElem_cons_succ,List.getElem_cons_zero,List.setIfInBounds_toArray,List.set_cons_zero,List.set_cons_succ]
          refine wpAnyH_take (i:=7) (v:=undef) rfl (by kernel_rfl) (by kernel_rfl) (by kernel_rfl) (fun _ _ _ h=>h) (Or.inr ⟨by rfl,rfl⟩) hH ?_
          try simp only [Act.put,List.getElem_toArray,List.getElem_cons_succ,List.getElem_cons_zero,List.setIfInBounds_toArray,List.set_cons_zero,List.set_cons_succ]
          refine wpAnyH_take (i:=8) (v:=(.bool true)) rfl (by kernel_rfl) (by kernel_rfl) (by kernel_rfl) (fun _ _ _ h=>h) (Or.inl ⟨by rfl,fun wz hz=>by skip;go_simp⟩) hH ?_
          try simp only [Act.put,List.getElem_toArray,List.getElem_cons_succ,List.getElem_cons_zero,List.setIfInBounds_toArray,List.set_cons_zero,List.set_cons_succ]
          refine wpAnyH_take (i:=9) (v:=(.bool true)) rfl (by kernel_rfl) (by kernel_rfl) (by kernel_rfl) (fun _ _ _ h=>h) (Or.inl ⟨by rfl,fun wz hz=>by skip;go_simp⟩) hH ?_
          try simp only [Act.put,List.getElem_toArray,List.getElem_cons_succ,List.getElem_cons_zero,List.setIfInBounds_toArray,List.set_cons_zero,List.set_cons_succ]
          refine wpAnyH_take (i:=10) (v:=undef) rfl (by kernel_rfl) (by kernel_rfl) (by kernel_rfl) (fun _ _ _ h=>h) (Or.inr ⟨by rfl,rfl⟩) hH ?_
          try simp only [Act.put,List.getElem_toArray,List.getElem_cons_succ,List.getElem_cons_zero,List.setIfInBounds_toArray,List.set_cons_zero,List.set_cons_succ]
          refine wpAnyH_take (i:=11) (v:=undef) rfl (by kernel_rfl) (by kernel_rfl) (by kernel_rfl) (fun _ _ _ h=>h) (Or.inr ⟨by rfl,rfl⟩) hH ?_
          try simp only [Act.put,List.getElem_toArray,List.getElem_cons_succ,List.getElem_cons_zero,List.setIfInBounds_toArray,List.set_cons_zero,List.set_cons_succ]
          refine wpAnyH_take (i:=12) (v:=undef) rfl (by kernel_rfl) (by kernel_rfl) (by kernel_rfl) (fun _ _ _ h=>h) (Or.inr ⟨by rfl,rfl⟩) hH ?_
          try simp only [Act.put,List.getElem_toArray,List.getElem_cons_succ,List.getElem_cons_zero,List.setIfInBounds_toArray,List.set_cons_zero,List.set_cons_succ]
          refine wpAnyH_take (i:=13) (v:=undef) rfl (by kernel_rfl) (by kernel_rfl) (by kernel_rfl) (fun _ _ _ h=>h) (Or.inr ⟨by rfl,rfl⟩) hH ?_
          try simp only [Act.put,List.getElem_toArray,List.getElem_cons_succ,List.getElem_cons_zero,List.setIfInBounds_toArray,List.set_cons_zero,List.set_cons_succ]
          refine wpAnyH_take (i:=14) (v:=(.bool true)) rfl (by kernel_rfl) (by kernel_rfl) (by kernel_rfl) (fun _ _ _ h=>h) (Or.inl ⟨by rfl,fun wz hz=>by skip;go_simp⟩) hH ?_
          try simp only [Act.put,List.getElem_toArray,List.getElem_cons_succ,List.getElem_cons_zero,List.setIfInBounds_toArray,List.set_cons_zero,List.set_cons_succ]
          refine wpAnyH_done (by kernel_rfl) ?_ _
          go_wp2
          go_ret
          exact ⟨rfl,hH.1⟩
        · obtain rfl : d = false:=by simpa using hD
          have Cz:=Lib.hid (fun w=>isZero_any c (big_of HL2.out) w)
          clear hD
          by_cases hZ : c = 0
          · rw [if_pos (Or.inr (Or.inl hZ))] at hck
            subst hck
            rw [show decide (c = 0) = true by simpa using hZ] at Cz
            clear hZ
            go_enter Tryz.func45,Tryz.ntmps45
            go_wp2_with (first
              | (go_at_call 113;(with_reducible refine (Cc.out _ HG.out).mono ?_);rintro e w1 ⟨rfl,hb1⟩;have HB1:=Lib.hid hb1;have HG1:=Lib.hid (HG.out.keep hb1);clear hb1)
              | (go_at_call 114;(with_reducible refine (Ct.out _ HG1.out).mono ?_);rintro e w2 ⟨rfl,rfl⟩)
              | (go_at_call 85;(with_reducible refine (Ce.out _ HG1.out).mono ?_);rintro e w3 ⟨rfl,hb3⟩;have HB3:=Lib.hid (HB1.out.trans ((below2 hb3).mono HB1.out.size));have HG3:=Lib.hid (HG1.out.keep2 hb3);clear hb3)
              | (go_at_call 107;(with_reducible refine (Cp.out _ HG3.out).mono ?_);rintro e w4 ⟨rfl,hb4⟩;have HB4:=Lib.hid (HB3.out.trans (hb4.mono HB3.out.size));clear hb4)
              | ((with_reducible refine al_zb 115 _ w4.heap.size ?_ ?_ z115 ?_);(· exact ⟨rfl,rfl⟩);· rfl)
              | ((with_reducible refine st115 w4.heap.size 0 a b c false ?_ ?_ ?_);(· exact ⟨rfl,_,_,rfl,rfl,rfl⟩);· exact there_at rfl _ 115 (by rw [frL_len])))
            try simp only [Act.put,List.setIfInBounds_toArray,List.set_cons_zero,List.set_cons_succ]
            have HBx:=Lib.hid ((below_set (HB4.out.alloc HB4.out.size (.cells (frL 0 false 0 false).toArray 115)) HB4.out.size 0 (frL a b c false)).drew)
            have HRx:=Lib.hid (show ((w4.alloc (.cells (frL 0 false 0 false).toArray 115)).setCells w4.heap.size 0 (frL a b c false)).drew.rangeAt w4.heap.size 0 (frL a b c false) from range_set (there_at rfl _ 115 (by rw [frL_len])) (by rw [frL_len]))
            refine wp_region_held_drew (S:=(fun w'=>Below w.heap.size w w'/\w'.rangeAt w4.heap.size 0 (frL a b c false))) (by kernel_rfl) ?_ (fun hH=>?_)
            · exact ⟨HBx.out,HRx.out⟩
            try dsimp only at hH
            refine wpAnyH_take (i:=0) (v:=(.pointer (some ⟨w4.heap.size,31,none⟩))) rfl (by kernel_rfl) (by kernel_rfl) (by kernel_rfl) (fun _ _ _ h=>h) (Or.inl ⟨by rfl,fun wz hz=>by skip;go_simp⟩) hH ?_
            try simp only [Act.put,List.getElem_toArray,List.getElem_cons_zero,List.setIfInBounds_toArray,List.set_cons_zero,List.set_cons_succ]
            refine wpAnyH_take (i:=1) (v:=(.pointer (some ⟨w4.heap.size,61,none⟩))) rfl (by kernel_rfl) (by kernel_rfl) (by kernel_rfl) (fun _ _ _ h=>h) (Or.inl ⟨by rfl,fun wz hz=>by skip;go_simp⟩) hH ?_
            try simp only [Act.put,List.getElem_toArray,List.getElem_cons_succ,List.getElem_cons_zero,List.setIfInBounds_toArray,List.set_cons_zero,List.set_cons_succ]
            refine wpAnyH_take (i:=2) (v:=(.bool false)) rfl (by kernel_rfl) (by kernel_rfl) (by kernel_rfl) (fun _ _ _ h=>h) (Or.inl ⟨by rfl,fun wz hz=>by have hc:=(range_frl hz.2).2.2.2;go_simp⟩) hH ?_
            try simp only [Act.put,List.getElem_toArray,List.getElem_cons_succ,List.getElem_cons_zero,List.setIfInBounds_toArray,List.set_cons_zero,List.set_cons_succ]
            refine wpAnyH_take (i:=3) (v:=(.bool false)) rfl (by kernel_rfl) (by kernel_rfl) (by kernel_rfl) (fun _ _ _ h=>h) (Or.inl ⟨by rfl,fun wz hz=>by skip;go_simp⟩) hH ?_
            try simp only [Act.put,List.getElem_toArray,List.getElem_cons_succ,List.getElem_cons_zero,List.setIfInBounds_toArray,List.set_cons_zero,List.set_cons_succ]
            refine wpAnyH_take (i:=4) (v:=(.pointer (some ⟨w4.heap.size,31,none⟩))) rfl (by kernel_rfl) (by kernel_rfl) (by kernel_rfl) (fun _ _ _ h=>h) (Or.inl ⟨by rfl,fun wz hz=>by skip;go_simp⟩) hH ?_
            try simp only [Act.put,List.getElem_toArray,List.getElem_cons_succ,List.getElem_cons_zero,List.setIfInBounds_toArray,List.set_cons_zero,List.set_cons_succ]
            refine wpAnyH_take (i:=5) (v:=(.pointer (some ⟨w4.heap.size,31,none⟩))) rfl (by kernel_rfl) (by kernel_rfl) (by kernel_rfl) (fun _ _ _ h=>h) (Or.inl ⟨by rfl,fun wz hz=>by skip;go_simp⟩) hH ?_
            try simp only [Act.put,List.getElem_toArray,List.getElem_cons_succ,List.getElem_cons_zero,List.setIfInBounds_toArray,List.set_cons_zero,List.set_cons_succ]
            refine wpAnyH_take (i:=6) (v:=(.agg (mgL c).toArray)) rfl (by kernel_rfl) (by kernel_rfl) (by kernel_rfl) (fun _ _ _ h=>h) (yld86 w4.heap.size 31 c rfl ⟨_,rfl,rfl⟩ (fun wz hz=>(range_frl (hz.2)).2.2.1)) hH ?_
            try simp only [Act.put,List.getElem_toArray,List.getElem_cons_succ,List.getElem_cons_zero,List.setIfInBounds_toArray,List.set_cons_zero,List.set_cons_succ]
            refine wpAnyH_ready (rs:=[7]) (by kernel_rfl) (by simp) ?_
            refine AllReadyH.cons rfl (fun K hK=>?_) AllReadyH.nil
            simp only [List.getElem_toArray,List.getElem_cons_succ,List.getElem_cons_zero]
            rw [if_pos (by rfl)]
            go_simp
            refine (Cz.out _).mono ?_;rintro e w1 ⟨rfl,hb1⟩
            try simp only []
            refine hK.out _ _ ?_ (fun hH1=>?_)
            · exact ⟨(hH.1).trans (hb1.mono (hH.1).size),range_keep hH.2 hb1⟩
            clear hK K
            try simp only [Act.put,List.getElem_toArray,List.getElem_cons_succ,List.getElem_cons_zero,List.setIfInBounds_toArray,List.set_cons_zero,List.set_cons_succ]
            refine wpAnyH_take (i:=8) (v:=(.bool true)) rfl (by kernel_rfl) (by kernel_rfl) (by kernel_rfl) (fun _ _ _ h=>h) (Or.inl ⟨by rfl,fun wz hz=>by skip;go_simp⟩) hH1 ?_
            try simp only [Act.put,List.getElem_toArray,List.getElem_cons_succ,List.getElem_cons_zero,List.setIfInBounds_toArray,List.set_cons_zero,List.set_cons_succ]
            refine wpAnyH_take (i:=9) (v:=(.bool true)) rfl (by kernel_rfl) (by kernel_rfl) (by kernel_rfl) (fun _ _ _ h=>h) (Or.inl ⟨by rfl,fun wz hz=>by skip;go_simp⟩) hH1 ?_
            try simp only [Act.put,List.getElem_toArray,List.getElem_cons_succ,List.getElem_cons_zero,List.setIfInBounds_toArray,List.set_cons_zero,List.set_cons_succ]
            refine wpAnyH_take (i:=10) (v:=undef) rfl (by kernel_rfl) (by kernel_rfl) (by kernel_rfl) (fun _ _ _ h=>h) (Or.inr ⟨by rfl,rfl⟩) hH1 ?_
            try simp only [Act.put,List.getElem_toArray,List.getElem_cons_succ,List.getElem_cons_zero,List.setIfInBounds_toArray,List.set_cons_zero,List.set_cons_succ]
            refine wpAnyH_take (i:=11) (v:=undef) rfl (by kernel_rfl) (by kernel_rfl) (by kernel_rfl) (fun _ _ _ h=>h) (Or.inr ⟨by rfl,rfl⟩) hH1 ?_
            try simp only [Act.put,List.getElem_toArray,List.getElem_cons_succ,List.getElem_cons_zero,List.setIfInBounds_toArray,List.set_cons_zero,List.set_cons_succ]
            refine wpAnyH_take (i:=12) (v:=undef) rfl (by kernel_rfl) (by kernel_rfl) (by kernel_rfl) (fun _ _ _ h=>h) (Or.inr ⟨by rfl,rfl⟩) hH1 ?_
            try simp only [Act.put,List.getElem_toArray,List.getElem_cons_succ,List.getElem_cons_zero,List.setIfInBounds_toArray,List.set_cons_zero,List.set_cons_succ]
            refine wpAnyH_take (i:=13) (v:=undef) rfl (by kernel_rfl) (by kernel_rfl) (by kernel_rfl) (fun _ _ _ h=>h) (Or.inr ⟨by rfl,rfl⟩) hH1 ?_
            try simp only [Act.put,List.getElem_toArray,List.getElem_cons_succ,List.getElem_cons_zero,List.setIfInBounds_toArray,List.set_cons_zero,List.set_cons_succ]
            refine wpAnyH_take (i:=14) (v:=(.bool true)) rfl (by kernel_rfl) (by kernel_rfl) (by kernel_rfl) (fun _ _ _ h=>h) (Or.inl ⟨by rfl,fun wz hz=>by skip;go_simp⟩) hH1 ?_
            try simp only [Act.put,List.getElem_toArray,List.getElem_cons_succ,List.getElem_cons_zero,List.setIfInBounds_toArray,List.set_cons_zero,List.set_cons_succ]
            refine wpAnyH_done (by kernel_rfl) ?_ _
            go_wp2
            go_ret
            exact ⟨rfl,hH1.1⟩
          · have hc0 : 0 < c:=Nat.pos_of_ne_zero hZ
            rw [show decide (c = 0) = false by simpa using hZ] at Cz
            have cr:=fun w=>reduced_any a b c false (up29 HL1.out) (up29 HL2.out) hc0 w
            have he:=fun w=>eq115 9995 a b c false (a / Nat.gcd a c) (b && !decide (a / Nat.gcd a c = 0)) (c / Nat.gcd a c) false (big_of HL1.out) (big_of HL2.out) (Nat.lt_of_le_of_lt (Nat.div_le_self _ _) (big_of HL1.out)) (Nat.lt_of_le_of_lt (Nat.div_le_self _ _) (big_of HL2.out)) w
            simp only [Nat.reduceAdd] at he
            rw [lowest_eq Hsp.out hc0] at he
            have hck2 : K = if Nat.gcd a c = 1 then 0 else 1:=by
              rw [hck]
              by_cases hg : Nat.gcd a c = 1
              · rw [if_neg (by simp [hZ,hg]),if_pos hg]
              · rw [if_pos (Or.inr (Or.inr hg)),if_neg hg]
            obtain ⟨g1,hg1⟩ : ∃ b,decide (Nat.gcd a c = 1) = b:=⟨_,rfl⟩
            have hck3 : K = if g1 = true then 0 else 1:=by rw [hck2,<- hg1];simp
            rw [hg1] at he
            obtain ⟨a2,ha2⟩ : ∃ x,a / Nat.gcd a c = x:=⟨_,rfl⟩
            obtain ⟨b2,hb2⟩ : ∃ x,(b && !decide (a / Nat.gcd a c = 0)) = x:=⟨_,rfl⟩
            obtain ⟨c2,hc2⟩ : ∃ x,c / Nat.gcd a c = x:=⟨_,rfl⟩
            rw [hb2,ha2,hc2] at cr he
            have Cr:=Lib.hid cr
            subst hck3
            clear cr ha2 hb2 hc2 hck hck2 hg1 hZ hc0
            cases g1 with
            | true =>
              go_enter Tryz.func45,Tryz.ntmps45
              go_wp2_with (first
                | (go_at_call 113;(with_reducible refine (Cc.out _ HG.out).mono ?_);rintro e w1 ⟨rfl,hb1⟩;have HB1:=Lib.hid hb1;have HG1:=Lib.hid (HG.out.keep hb1);clear hb1)
                | (go_at_call 114;(with_reducible refine (Ct.out _ HG1.out).mono ?_);rintro e w2 ⟨rfl,rfl⟩)
                | (go_at_call 85;(with_reducible refine (Ce.out _ HG1.out).mono ?_);rintro e w3 ⟨rfl,hb3⟩;have HB3:=Lib.hid (HB1.out.trans ((below2 hb3).mono HB1.out.size));have HG3:=Lib.hid (HG1.out.keep2 hb3);clear hb3)
                | (go_at_call 107;(with_reducible refine (Cp.out _ HG3.out).mono ?_);rintro e w4 ⟨rfl,hb4⟩;have HB4:=Lib.hid (HB3.out.trans (hb4.mono HB3.out.size));clear hb4)
                | ((with_reducible refine al_zb 115 _ w4.heap.size ?_ ?_ z115 ?_);(· exact ⟨rfl,rfl⟩);· rfl)
                | ((with_reducible refine st115 w4.heap.size 0 a b c false ?_ ?_ ?_);(· exact ⟨rfl,_,_,rfl,rfl,rfl⟩);· exact there_at rfl _ 115 (by rw [frL_len])))
              try simp only [Act.put,List.setIfInBounds_toArray,List.set_cons_zero,List.set_cons_succ]
              have HBx:=Lib.hid ((below_set (HB4.out.alloc HB4.out.size (.cells (frL 0 false 0 false).toArray 115)) HB4.out.size 0 (frL a b c false)).drew)
              have HRx:=Lib.hid (show ((w4.alloc (.cells (frL 0 false 0 false).toArray 115)).setCells w4.heap.size 0 (frL a b c false)).drew.rangeAt w4.heap.size 0 (frL a b c false) from range_set (there_at rfl _ 115 (by rw [frL_len])) (by rw [frL_len]))
              refine wp_region_held_drew (S:=(fun w'=>Below w.heap.size w w'/\w'.rangeAt w4.heap.size 0 (frL a b c false))) (by kernel_rfl) ?_ (fun hH=>?_)
              · exact ⟨HBx.out,HRx.out⟩
              try dsimp only at hH
              refine wpAnyH_take (i:=0) (v:=(.pointer (some ⟨w4.heap.size,31,none⟩))) rfl (by kernel_rfl) (by kernel_rfl) (by kernel_rfl) (fun _ _ _ h=>h) (Or.inl ⟨by rfl,fun wz hz=>by skip;go_simp⟩) hH ?_
              try simp only [Act.put,List.getElem_toArray,List.getElem_cons_zero,List.setIfInBounds_toArray,List.set_cons_zero,List.set_cons_succ]
              refine wpAnyH_take (i:=1) (v:=(.pointer (some ⟨w4.heap.size,61,none⟩))) rfl (by kernel_rfl) (by kernel_rfl) (by kernel_rfl) (fun _ _ _ h=>h) (Or.inl ⟨by rfl,fun wz hz=>by skip;go_simp⟩) hH ?_
              try simp only [Act.put,List.getElem_toArray,List.getElem_cons_succ,List.getElem_cons_zero,List.setIfInBounds_toArray,List.set_cons_zero,List.set_cons_succ]
              refine wpAnyH_take (i:=2) (v:=(.bool false)) rfl (by kernel_rfl) (by kernel_rfl) (by kernel_rfl) (fun _ _ _ h=>h) (Or.inl ⟨by rfl,fun wz hz=>by have hc:=(range_frl hz.2).2.2.2;go_simp⟩) hH ?_
              try simp only [Act.put,List.getElem_toArray,List.getElem_cons_succ,List.getElem_cons_zero,List.setIfInBounds_toArray,List.set_cons_zero,List.set_cons_succ]
              refine wpAnyH_take (i:=3) (v:=(.bool false)) rfl (by kernel_rfl) (by kernel_rfl) (by kernel_rfl) (fun _ _ _ h=>h) (Or.inl ⟨by rfl,fun wz hz=>by skip;go_simp⟩) hH ?_
              try simp only [Act.put,List.getElem_toArray,List.getElem_cons_succ,List.getElem_cons_zero,List.setIfInBounds_toArray,List.set_cons_zero,List.set_cons_succ]
              refine wpAnyH_take (i:=4) (v:=(.pointer (some ⟨w4.heap.size,31,none⟩))) rfl (by kernel_rfl) (by kernel_rfl) (by kernel_rfl) (fun _ _ _ h=>h) (Or.inl ⟨by rfl,fun wz hz=>by skip;go_simp⟩) hH ?_
              try simp only [Act.put,List.getElem_toArray,List.getElem_cons_succ,List.getElem_cons_zero,List.setIfInBounds_toArray,List.set_cons_zero,List.set_cons_succ]
              refine wpAnyH_take (i:=5) (v:=(.pointer (some ⟨w4.heap.size,31,none⟩))) rfl (by kernel_rfl) (by kernel_rfl) (by kernel_rfl) (fun _ _ _ h=>h) (Or.inl ⟨by rfl,fun wz hz=>by skip;go_simp⟩) hH ?_
              try simp only [Act.put,List.getElem_toArray,List.getElem_cons_succ,List.getElem_cons_zero,List.setIfInBounds_toArray,List.set_cons_zero,List.set_cons_succ]
              refine wpAnyH_take (i:=6) (v:=(.agg (mgL c).toArray)) rfl (by kernel_rfl) (by kernel_rfl) (by kernel_rfl) (fun _ _ _ h=>h) (yld86 w4.heap.size 31 c rfl ⟨_,rfl,rfl⟩ (fun wz hz=>(range_frl (hz.2)).2.2.1)) hH ?_
              try simp only [Act.put,List.getElem_toArray,List.getElem_cons_succ,List.getElem_cons_zero,List.setIfInBounds_toArray,List.set_cons_zero,List.set_cons_succ]
              refine wpAnyH_ready (rs:=[7]) (by kernel_rfl) (by simp) ?_
              refine AllReadyH.cons rfl (fun K hK=>?_) AllReadyH.nil
              simp only [List.getElem_toArray,List.getElem_cons_succ,List.getElem_cons_zero]
              rw [if_pos (by rfl)]
              go_simp
              refine (Cz.out _).mono ?_;rintro e w1 ⟨rfl,hb1⟩
              try simp only []
              refine hK.out _ _ ?_ (fun hH1=>?_)
              · exact ⟨(hH.1).trans (hb1.mono (hH.1).size),range_keep hH.2 hb1⟩
              clear hK K
              try simp only [Act.put,List.getElem_toArray,List.getElem_cons_succ,List.getElem_cons_zero,List.setIfInBounds_toArray,List.set_cons_zero,List.set_cons_succ]
              refine wpAnyH_take (i:=8) (v:=(.bool false)) rfl (by kernel_rfl) (by kernel_rfl) (by kernel_rfl) (fun _ _ _ h=>h) (Or.inl ⟨by rfl,fun wz hz=>by skip;go_simp⟩) hH1 ?_
              try simp only [Act.put,List.getElem_toArray,List.getElem_cons_succ,List.getElem_cons_zero,List.setIfInBounds_toArray,List.set_cons_zero,List.set_cons_succ]
              refine wpAnyH_take (i:=9) (v:=(.bool false)) rfl (by kernel_rfl) (by kernel_rfl) (by kernel_rfl) (fun _ _ _ h=>h) (Or.inl ⟨by rfl,fun wz hz=>by skip;go_simp⟩) hH1 ?_
              try simp only [Act.put,List.getElem_toArray,List.getElem_cons_succ,List.getElem_cons_zero,List.setIfInBounds_toArray,List.set_cons_zero,List.set_cons_succ]
              refine wpAnyH_take (i:=10) (v:=(.agg (frL a b c false).toArray)) rfl (by kernel_rfl) (by kernel_rfl) (by kernel_rfl) (fun _ _ _ h=>h) (yld115 w4.heap.size 0 a b c false rfl ⟨_,rfl,rfl⟩ (fun wz hz=>hz.2)) hH1 ?_
              try simp only [Act.put,List.getElem_toArray,List.getElem_cons_succ,List.getElem_cons_zero,List.setIfInBounds_toArray,List.set_cons_zero,List.set_cons_succ]
              refine wpAnyH_take (i:=11) (v:=(.agg (frL a b c false).toArray)) rfl (by kernel_rfl) (by kernel_rfl) (by kernel_rfl) (fun _ _ _ h=>h) (yld115 w4.heap.size 0 a b c false rfl ⟨_,rfl,rfl⟩ (fun wz hz=>hz.2)) hH1 ?_
              try simp only [Act.put,List.getElem_toArray,List.getElem_cons_succ,List.getElem_cons_zero,List.setIfInBounds_toArray,List.set_cons_zero,List.set_cons_succ]
              refine wpAnyH_ready (rs:=[12]) (by kernel_rfl) (by simp) ?_
              refine AllReadyH.cons rfl (fun K hK=>?_) AllReadyH.nil
              simp only [List.getElem_toArray,List.getElem_cons_succ,List.getElem_cons_zero]
              rw [if_pos (by rfl)]
              go_simp
              refine (Cr.out _).mono ?_;rintro e w2 ⟨rfl,hb2⟩
              try simp only []
              refine hK.out _ _ ?_ (fun hH2=>?_)
              · exact ⟨(hH1.1).trans (hb2.mono (hH1.1).size),range_keep hH1.2 hb2⟩
              clear hK K
              try simp only [Act.put,List.getElem_toArray,List.getElem_cons_succ,List.getElem_cons_zero,List.setIfInBounds_toArray,List.set_cons_zero,List.set_cons_succ]
              refine wpAnyH_take (i:=13) (v:=(.bool false)) rfl (by kernel_rfl) (by kernel_rfl) (by kernel_rfl) (fun _ _ _ h=>h) (Or.inl ⟨by rfl,fun wz hz=>by have h9:=he wz;go_simp⟩) hH2 ?_
              try simp only [Act.put,List.getElem_toArray,List.getElem_cons_succ,List.getElem_cons_zero,List.setIfInBounds_toArray,List.set_cons_zero,List.set_cons_succ]
              refine wpAnyH_take (i:=14) (v:=(.bool false)) rfl (by kernel_rfl) (by kernel_rfl) (by kernel_rfl) (fun _ _ _ h=>h) (Or.inl ⟨by rfl,fun wz hz=>by skip;go_simp⟩) hH2 ?_
              try simp only [Act.put,List.getElem_toArray,List.getElem_cons_succ,List.getElem_cons_zero,List.setIfInBounds_toArray,List.set_cons_zero,List.set_cons_succ]
              refine wpAnyH_done (by kernel_rfl) ?_ _
              go_wp2
              go_ret
              exact ⟨rfl,hH2.1⟩
            | false =>
              go_enter Tryz.func45,Tryz.ntmps45
              go_wp2_with (first
                | (go_at_call 113;(with_reducible refine (Cc.out _ HG.out).mono ?_);rintro e w1 ⟨rfl,hb1⟩;have HB1:=Lib.hid hb1;have HG1:=Lib.hid (HG.out.keep hb1);clear hb1)
                | (go_at_call 114;(with_reducible refine (Ct.out _ HG1.out).mono ?_);rintro e w2 ⟨rfl,rfl⟩)
                | (go_at_call 85;(with_reducible refine (Ce.out _ HG1.out).mono ?_);rintro e w3 ⟨rfl,hb3⟩;have HB3:=Lib.hid (HB1.out.trans ((below2 hb3).mono HB1.out.size));have HG3:=Lib.hid (HG1.out.keep2 hb3);clear hb3)
                | (go_at_call 107;(with_reducible refine (Cp.out _ HG3.out).mono ?_);rintro e w4 ⟨rfl,hb4⟩;have HB4:=Lib.hid (HB3.out.trans (hb4.mono HB3.out.size));clear hb4)
                | ((with_reducible refine al_zb 115 _ w4.heap.size ?_ ?_ z115 ?_);(· exact ⟨rfl,rfl⟩);· rfl)
                | ((with_reducible refine st115 w4.heap.size 0 a b c false ?_ ?_ ?_);(· exact ⟨rfl,_,_,rfl,rfl,rfl⟩);· exact there_at rfl _ 115 (by rw [frL_len])))
              try simp only [Act.put,List.setIfInBounds_toArray,List.set_cons_zero,List.set_cons_succ]
              have HBx:=Lib.hid ((below_set (HB4.out.alloc HB4.out.size (.cells (frL 0 false 0 false).toArray 115)) HB4.out.size 0 (frL a b c false)).drew)
              have HRx:=Lib.hid (show ((w4.alloc (.cells (frL 0 false 0 false).toArray 115)).setCells w4.heap.size 0 (frL a b c false)).drew.rangeAt w4.heap.size 0 (frL a b c false) from range_set (there_at rfl _ 115 (by rw [frL_len])) (by rw [frL_len]))
              refine wp_region_held_drew (S:=(fun w'=>Below w.heap.size w w'/\w'.rangeAt w4.heap.size 0 (frL a b c false))) (by kernel_rfl) ?_ (fun hH=>?_)
              · exact ⟨HBx.out,HRx.out⟩
              try dsimp only at hH
              refine wpAnyH_take (i:=0) (v:=(.pointer (some ⟨w4.heap.size,31,none⟩))) rfl (by kernel_rfl) (by kernel_rfl) (by kernel_rfl) (fun _ _ _ h=>h) (Or.inl ⟨by rfl,fun wz hz=>by skip;go_simp⟩) hH ?_
              try simp only [Act.put,List.getElem_toArray,List.getElem_cons_zero,List.setIfInBounds_toArray,List.set_cons_zero,List.set_cons_succ]
              refine wpAnyH_take (i:=1) (v:=(.pointer (some ⟨w4.heap.size,61,none⟩))) rfl (by kernel_rfl) (by kernel_rfl) (by kernel_rfl) (fun _ _ _ h=>h) (Or.inl ⟨by rfl,fun wz hz=>by skip;go_simp⟩) hH ?_
              try simp only [Act.put,List.getElem_toArray,List.getElem_cons_succ,List.getElem_cons_zero,List.setIfInBounds_toArray,List.set_cons_zero,List.set_cons_succ]
              refine wpAnyH_take (i:=2) (v:=(.bool false)) rfl (by kernel_rfl) (by kernel_rfl) (by kernel_rfl) (fun _ _ _ h=>h) (Or.inl ⟨by rfl,fun wz hz=>by have hc:=(range_frl hz.2).2.2.2;go_simp⟩) hH ?_
              try simp only [Act.put,List.getElem_toArray,List.getElem_cons_succ,List.getElem_cons_zero,List.setIfInBounds_toArray,List.set_cons_zero,List.set_cons_succ]
              refine wpAnyH_take (i:=3) (v:=(.bool false)) rfl (by kernel_rfl) (by kernel_rfl) (by kernel_rfl) (fun _ _ _ h=>h) (Or.inl ⟨by rfl,fun wz hz=>by skip;go_simp⟩) hH ?_
              try simp only [Act.put,List.getElem_toArray,List.getElem_cons_succ,List.getElem_cons_zero,List.setIfInBounds_toArray,List.set_cons_zero,List.set_cons_succ]
              refine wpAnyH_take (i:=4) (v:=(.pointer (some ⟨w4.heap.size,31,none⟩))) rfl (by kernel_rfl) (by kernel_rfl) (by kernel_rfl) (fun _ _ _ h=>h) (Or.inl ⟨by rfl,fun wz hz=>by skip;go_simp⟩) hH ?_
              try simp only [Act.put,List.getElem_toArray,List.getElem_cons_succ,List.getElem_cons_zero,List.setIfInBounds_toArray,List.set_cons_zero,List.set_cons_succ]
              refine wpAnyH_take (i:=5) (v:=(.pointer (some ⟨w4.heap.size,31,none⟩))) rfl (by kernel_rfl) (by kernel_rfl) (by kernel_rfl) (fun _ _ _ h=>h) (Or.inl ⟨by rfl,fun wz hz=>by skip;go_simp⟩) hH ?_
              try simp only [Act.put,List.getElem_toArray,List.getElem_cons_succ,List.getElem_cons_zero,List.setIfInBounds_toArray,List.set_cons_zero,List.set_cons_succ]
              refine wpAnyH_take (i:=6) (v:=(.agg (mgL c).toArray)) rfl (by kernel_rfl) (by kernel_rfl) (by kernel_rfl) (fun _ _ _ h=>h) (yld86 w4.heap.size 31 c rfl ⟨_,rfl,rfl⟩ (fun wz hz=>(range_frl (hz.2)).2.2.1)) hH ?_
              try simp only [Act.put,List.getElem_toArray,List.getElem_cons_succ,List.getElem_cons_zero,List.setIfInBounds_toArray,List.set_cons_zero,List.set_cons_succ]
              refine wpAnyH_ready (rs:=[7]) (by kernel_rfl) (by simp) ?_
              refine AllReadyH.cons rfl (fun K hK=>?_) AllReadyH.nil
              simp only [List.getElem_toArray,List.getElem_cons_succ,List.getElem_cons_zero]
              rw [if_pos (by rfl)]
              go_simp
              refine (Cz.out _).mono ?_;rintro e w1 ⟨rfl,hb1⟩
              try simp only []
              refine hK.out _ _ ?_ (fun hH1=>?_)
              · exact ⟨(hH.1).trans (hb1.mono (hH.1).size),range_keep hH.2 hb1⟩
              clear hK K
              try simp only [Act.put,List.getElem_toArray,List.getElem_cons_succ,List.getElem_cons_zero,List.setIfInBounds_toArray,List.set_cons_zero,List.set_cons_succ]
              refine wpAnyH_take (i:=8) (v:=(.bool false)) rfl (by kernel_rfl) (by kernel_rfl) (by kernel_rfl) (fun _ _ _ h=>h) (Or.inl ⟨by rfl,fun wz hz=>by skip;go_simp⟩) hH1 ?_
              try simp only [Act.put,List.getElem_toArray,List.getElem_cons_succ,List.getElem_cons_zero,List.setIfInBounds_toArray,List.set_cons_zero,List.set_cons_succ]
              refine wpAnyH_take (i:=9) (v:=(.bool false)) rfl (by kernel_rfl) (by kernel_rfl) (by kernel_rfl) (fun _ _ _ h=>h) (Or.inl ⟨by rfl,fun wz hz=>by skip;go_simp⟩) hH1 ?_
              try simp only [Act.put,List.getElem_toArray,List.getElem_cons_succ,List.getElem_cons_zero,List.setIfInBounds_toArray,List.set_cons_zero,List.set_cons_succ]
              refine wpAnyH_take (i:=10) (v:=(.agg (frL a b c false).toArray)) rfl (by kernel_rfl) (by kernel_rfl) (by kernel_rfl) (fun _ _ _ h=>h) (yld115 w4.heap.size 0 a b c false rfl ⟨_,rfl,rfl⟩ (fun wz hz=>hz.2)) hH1 ?_
              try simp only [Act.put,List.getElem_toArray,List.getElem_cons_succ,List.getElem_cons_zero,List.setIfInBounds_toArray,List.set_cons_zero,List.set_cons_succ]
              refine wpAnyH_take (i:=11) (v:=(.agg (frL a b c false).toArray)) rfl (by kernel_rfl) (by kernel_rfl) (by kernel_rfl) (fun _ _ _ h=>h) (yld115 w4.heap.size 0 a b c false rfl ⟨_,rfl,rfl⟩ (fun wz hz=>hz.2)) hH1 ?_
              try simp only [Act.put,List.getElem_toArray,List.getElem_cons_succ,List.getElem_cons_zero,List.setIfInBounds_toArray,List.set_cons_zero,List.set_cons_succ]
              refine wpAnyH_ready (rs:=[12]) (by kernel_rfl) (by simp) ?_
              refine AllReadyH.cons rfl (fun K hK=>?_) AllReadyH.nil
              simp only [List.getElem_toArray,List.getElem_cons_succ,List.getElem_cons_zero]
              rw [if_pos (by rfl)]
              go_simp
              refine (Cr.out _).mono ?_;rintro e w2 ⟨rfl,hb2⟩
              try simp only []
              refine hK.out _ _ ?_ (fun hH2=>?_)
              · exact ⟨(hH1.1).trans (hb2.mono (hH1.1).size),range_keep hH1.2 hb2⟩
              clear hK K
              try simp only [Act.put,List.getElem_toArray,List.getElem_cons_succ,List.getElem_cons_zero,List.setIfInBounds_toArray,List.set_cons_zero,List.set_cons_succ]
              refine wpAnyH_take (i:=13) (v:=(.bool true)) rfl (by kernel_rfl) (by kernel_rfl) (by kernel_rfl) (fun _ _ _ h=>h) (Or.inl ⟨by rfl,fun wz hz=>by have h9:=he wz;go_simp⟩) hH2 ?_
              try simp only [Act.put,List.getElem_toArray,List.getElem_cons_succ,List.getElem_cons_zero,List.setIfInBounds_toArray,List.set_cons_zero,List.set_cons_succ]
              refine wpAnyH_take (i:=14) (v:=(.bool true)) rfl (by kernel_rfl) (by kernel_rfl) (by kernel_rfl) (fun _ _ _ h=>h) (Or.inl ⟨by rfl,fun wz hz=>by skip;go_simp⟩) hH2 ?_
              try simp only [Act.put,List.getElem_toArray,List.getElem_cons_succ,List.getElem_cons_zero,List.setIfInBounds_toArray,List.set_cons_zero,List.set_cons_succ]
              refine wpAnyH_done (by kernel_rfl) ?_ _
              go_wp2
              go_ret
              exact ⟨rfl,hH2.1⟩
      · rw [if_pos hC] at hck
        subst hck
        have td : (K != 0) = true:=by simpa using hC
        have HC:=Lib.hid hC
        clear hp hsp hl1 hl2 h12 hC hA hB
        go_enter Tryz.func45,Tryz.ntmps45
        go_wp2_with (first
          | (go_at_call 113;(with_reducible refine (Cc.out _ HG.out).mono ?_);rintro e w1 ⟨rfl,hb1⟩;have HB1:=Lib.hid hb1;have HG1:=Lib.hid (HG.out.keep hb1);clear hb1)
          | (go_at_call 114;(with_reducible refine (Ct.out _ HG1.out).mono ?_);rintro e w2 ⟨rfl,rfl⟩)
          | (go_at_call 85;(with_reducible refine (Ce.out _ HG1.out).mono ?_);rintro e w3 ⟨rfl,hb3⟩;have HB3:=Lib.hid (HB1.out.trans ((below2 hb3).mono HB1.out.size));have HG3:=Lib.hid (HG1.out.keep2 hb3);clear hb3))
        go_ret
        exact ⟨rfl,HB3.out⟩
end Go.Proofs.YtpbegoflpfdajaaGreatDoor

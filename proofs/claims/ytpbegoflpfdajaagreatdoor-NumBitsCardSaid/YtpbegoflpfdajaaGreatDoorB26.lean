/- WHAT IS PROVED: contracts of functions of the numbers package and laws for them, used by the last text of this claim. CONDITIONS: stated at each theorem. -/
import Derived.Test.YtpbegoflpfdajaaGreatDoorB25
namespace Go.Proofs.YtpbegoflpfdajaaGreatDoor
section
open Go.RowKit
def frN (l : List UInt8) : Nat:=intM (upT l)
def frS (l : List UInt8) : Bool:=intS (upT l)
def frD (l : List UInt8) : Nat:=intM (loT l)
structure FrOk (l : List UInt8) : Prop where
  up : ckL (upT l) = 0
  lo : ckL (loT l) = 0
  pos : intS (loT l) = false
  nz : 0 < frD l
  red : Nat.gcd (frN l) (frD l) = 1
  found : (Lib.cut l [47]).2.2 = true
  one : Lib.contains (loT l) [47] = false
theorem ckR_ok {l : List UInt8} (h : ckR l = 0) : FrOk l:=by
  unfold ckR at h
  split at h
  · omega
  · rename_i h1
    split at h
    · rename_i h2;exact absurd h h2
    · rename_i h2
      split at h
      · omega
      · rename_i h3
        have h2 : firstE [ckL (upT l),ckL (loT l)] = 0:=by simpa using h2
        obtain ⟨a,b⟩:=firstE_two h2
        simp only [not_or] at h1 h3
        exact ⟨a,b,by simpa using h3.1,Nat.pos_of_ne_zero h3.2.1,Decidable.not_not.1 h3.2.2,by simpa using h1.1,by simpa using h1.2⟩
theorem FrOk.n14 {l : List UInt8} (h : FrOk l) : frN l < bb ^ 14:=intM_small _ h.up
theorem FrOk.d14 {l : List UInt8} (h : FrOk l) : frD l < bb ^ 14:=intM_small _ h.lo
theorem FrOk.sign {l : List UInt8} (_ : FrOk l) : frS l = true->frN l ≠ 0:=intS_pos
theorem parse_frac (x : ByteArray) (hx : x.size < 4294967281) (h : FrOk x.data.toList) (w : World) (hg : Gl w) :
    Calls Tryz.prog 107 #[.string x] w fun e w'=>e = .returned (.agg (frL (frN x.data.toList) (frS x.data.toList) (frD x.data.toList) false).toArray)/\Below w.heap.size w w':=by
  have:=parseFraction_any x hx h.up h.lo w hg
  rw [h.pos] at this
  exact this
theorem checkReal_enter (args : Array Value) (w : World) : (callFunc 45 args).run Tryz.prog w = .ok (.enter 45 args) w:=enters_of Tryz.func45 (by kernel_rfl) rfl _ _
def ckR2 (x y : ByteArray) : Int:=firstE [ckR x.data.toList,ckR y.data.toList]
theorem checkReals_two (x y : ByteArray) (hx : x.size < 4294967281) (hy : y.size < 4294967281) (w : World) (hg : Gl w) : Calls Tryz.prog 85 #[.func (.func 45) #[] #[],.slice (some ⟨w.heap.size,0,none⟩) 2 2] (w.alloc (.cells #[.string x,.string y] 9)) fun e w'=>e = .returned (.int .i64 (ckR2 x y))/\Below (w.alloc (.cells #[.string x,.string y] 9)).heap.size (w.alloc (.cells #[.string x,.string y] 9)) w':=by
  obtain ⟨a0,a1,a2,a3⟩:=two_new (w:=w) (.string x) (.string y) 9
  exact firstOf_plain 45 checkReal_enter (fun s=>ckR s.data.toList) w.heap.size 1 2 [x,y] (w.alloc (.cells #[.string x,.string y] 9)) rfl (by omega) a0 (fun i hi=>by
    match i,hi with
    | 0,_=>exact a1
    | 1,_=>exact a2) (fun z hz w3 hb=>checkReal_any z (by
      rcases List.mem_cons.1 hz with rfl | hz
      · exact hx
      · rcases List.mem_cons.1 hz with rfl | hz
        · exact hy
        · cases hz) w3 ((hg.keep a3).keep hb))
def errT (E : Int) : Value:=.tuple #[.string ⟨#[]⟩,.int .i64 E]
def resR (p : Nat) (s : Bool) (q : Nat) (t : Bool) : Value:=resF (p / Nat.gcd p q) (ratS p s t && !decide (p / Nat.gcd p q = 0)) (q / Nat.gcd p q) false
theorem rat_lt30 {a c : Nat} (h : a < bb ^ 29) : a / c < bb ^ 30:=Nat.lt_of_le_of_lt (Nat.div_le_self _ _) (Nat.lt_of_lt_of_le h (pow_mono (by omega)))
set_option maxHeartbeats 2000000 in
theorem fractions_ok (f : Nat) (ef : ∀ args wx,(callFunc f args).run Tryz.prog wx = .ok (.enter f args) wx) (x y : ByteArray) (hx : x.size < 4294967281) (hy : y.size < 4294967281) (h1 : ckR x.data.toList = 0) (h2 : ckR y.data.toList = 0) (n : Nat) (s : Bool) (m : Nat) (hn : n < bb ^ 30) (hm : m < bb ^ 30)
    (hf : ∀ w,Calls Tryz.prog f #[.agg (frL (frN x.data.toList) (frS x.data.toList) (frD x.data.toList) false).toArray,.agg (frL (frN y.data.toList) (frS y.data.toList) (frD y.data.toList) false).toArray] w fun e w'=>e = .returned (.agg (frL n s m false).toArray)/\Below w.heap.size w w') (w : World) (hg : Gl w) :
    Calls Tryz.prog 98 #[.string x,.string y,.func (.func f) #[] #[]] w fun e w'=>e = .returned (resF n s m false)/\Below w.heap.size w w':=by
  have cc:=checkReals_two x y hx hy w hg
  have e2 : ckR2 x y = 0:=by unfold ckR2;rw [h1,h2];rfl
  rw [e2] at cc
  have Cc:=Lib.hid cc
  have HG:=Lib.hid hg
  have C1:=Lib.hid (fun w g=>parse_frac x hx (ckR_ok h1) w g)
  have C2:=Lib.hid (fun w g=>parse_frac y hy (ckR_ok h2) w g)
  have cr:=fun w g=>fracResult_any n s m false hn hm w g
  obtain ⟨R,hR⟩ : ∃ R,resF n s m false = R:=⟨_,rfl⟩
  have hR2 : ∃ a b,R = .tuple #[a,b]:=⟨_,_,hR.symm⟩
  rw [hR] at cr ⊢
  obtain ⟨ra,rb,rfl⟩:=hR2
  have Cr:=Lib.hid cr
  obtain ⟨V1,hV1⟩ : ∃ V,(frL (frN x.data.toList) (frS x.data.toList) (frD x.data.toList) false).toArray = V:=⟨_,rfl⟩
  obtain ⟨V2,hV2⟩ : ∃ V,(frL (frN y.data.toList) (frS y.data.toList) (frD y.data.toList) false).toArray = V:=⟨_,rfl⟩
  obtain ⟨V3,hV3⟩ : ∃ V,(frL n s m false).toArray = V:=⟨_,rfl⟩
  rw [hV1] at C1 hf
  rw [hV2] at C2 hf
  rw [hV3] at Cr hf
  have CF:=Lib.hid hf
  clear cc cr hf h1 h2 hn hm hg hV1 hV2 hV3 hR e2 hx hy
  go_enter Tryz.func98,Tryz.ntmps98
  go_wp2_with (first
    | (go_at_call 85;(with_reducible refine (Cc.out).mono ?_);rintro e w1 ⟨rfl,hb1⟩;have HB1:=Lib.hid (below2 hb1);have HG1:=Lib.hid (HG.out.keep2 hb1);clear hb1)
    | (go_at_call 107;(with_reducible refine (C1.out _ HG1.out).mono ?_);rintro e w2 ⟨rfl,hb2⟩;have HB2:=Lib.hid (HB1.out.trans (hb2.mono HB1.out.size));have HG2:=Lib.hid (HG1.out.keep hb2);clear hb2 HG1)
    | (go_at_call 107;(with_reducible refine (C2.out _ HG2.out).mono ?_);rintro e w3 ⟨rfl,hb3⟩;have HB3:=Lib.hid (HB2.out.trans (hb3.mono HB2.out.size));have HG3:=Lib.hid (HG2.out.keep hb3);clear hb3 HG2)
    | (go_at_fn f;refine (CF.out _).mono ?_;rintro e w4 ⟨rfl,hb4⟩;have HB4:=Lib.hid (HB3.out.trans (hb4.mono HB3.out.size));have HG4:=Lib.hid (HG3.out.keep hb4);clear hb4 HG3)
    | (go_at_call 109;(with_reducible refine (Cr.out _ HG4.out).mono ?_);rintro e w5 ⟨rfl,hb5⟩;have HB5:=Lib.hid (HB4.out.trans (hb5.mono HB4.out.size));clear hb5))
  all_goals go_ret2
  all_goals exact ⟨rfl,HB5.out⟩
theorem addReal_enter (args : Array Value) (w : World) : (callFunc 99 args).run Tryz.prog w = .ok (.enter 99 args) w:=enters_of Tryz.func99 (by kernel_rfl) rfl _ _
theorem addReal_of (x y : ByteArray) (w : World) (R : Value) (hR : ∃ a b,R = .tuple #[a,b]) (hc : Calls Tryz.prog 98 #[.string x,.string y,.func (.func 99) #[] #[]] w fun e w'=>e = .returned R/\Below w.heap.size w w') :
    Calls Tryz.prog 35 #[.string x,.string y] w fun e w'=>e = .returned R/\Below w.heap.size w w':=by
  obtain ⟨ra,rb,rfl⟩:=hR
  have C:=Lib.hid hc;clear hc
  go_enter Tryz.func35,Tryz.ntmps35
  go_wp2_with (go_at_call 98;(with_reducible refine (C.out).mono ?_);rintro e w1 ⟨rfl,hb1⟩)
  go_ret2
  exact ⟨rfl,hb1⟩
theorem subReal_enter (args : Array Value) (w : World) : (callFunc 103 args).run Tryz.prog w = .ok (.enter 103 args) w:=enters_of Tryz.func103 (by kernel_rfl) rfl _ _
theorem subReal_of (x y : ByteArray) (w : World) (R : Value) (hR : ∃ a b,R = .tuple #[a,b]) (hc : Calls Tryz.prog 98 #[.string x,.string y,.func (.func 103) #[] #[]] w fun e w'=>e = .returned R/\Below w.heap.size w w') :
    Calls Tryz.prog 37 #[.string x,.string y] w fun e w'=>e = .returned R/\Below w.heap.size w w':=by
  obtain ⟨ra,rb,rfl⟩:=hR
  have C:=Lib.hid hc;clear hc
  go_enter Tryz.func37,Tryz.ntmps37
  go_wp2_with (go_at_call 98;(with_reducible refine (C.out).mono ?_);rintro e w1 ⟨rfl,hb1⟩)
  go_ret2
  exact ⟨rfl,hb1⟩
theorem mulReal_enter (args : Array Value) (w : World) : (callFunc 105 args).run Tryz.prog w = .ok (.enter 105 args) w:=enters_of Tryz.func105 (by kernel_rfl) rfl _ _
theorem mulReal_of (x y : ByteArray) (w : World) (R : Value) (hR : ∃ a b,R = .tuple #[a,b]) (hc : Calls Tryz.prog 98 #[.string x,.string y,.func (.func 105) #[] #[]] w fun e w'=>e = .returned R/\Below w.heap.size w w') :
    Calls Tryz.prog 39 #[.string x,.string y] w fun e w'=>e = .returned R/\Below w.heap.size w w':=by
  obtain ⟨ra,rb,rfl⟩:=hR
  have C:=Lib.hid hc;clear hc
  go_enter Tryz.func39,Tryz.ntmps39
  go_wp2_with (go_at_call 98;(with_reducible refine (C.out).mono ?_);rintro e w1 ⟨rfl,hb1⟩)
  go_ret2
  exact ⟨rfl,hb1⟩
theorem addReal_ok (x y : ByteArray) (hx : x.size < 4294967281) (hy : y.size < 4294967281) (h1 : ckR x.data.toList = 0) (h2 : ckR y.data.toList = 0) (w : World) (hg : Gl w) : Calls Tryz.prog 35 #[.string x,.string y] w fun e w'=>e = .returned (resR (addF (frN x.data.toList) (frS x.data.toList) (frD x.data.toList) (frN y.data.toList) (frS y.data.toList) (frD y.data.toList)).1 (addF (frN x.data.toList) (frS x.data.toList) (frD x.data.toList) (frN y.data.toList) (frS y.data.toList) (frD y.data.toList)).2 (frD x.data.toList * frD y.data.toList) false)/\Below w.heap.size w w':=by
  have a:=ckR_ok h1;have b:=ckR_ok h2
  refine addReal_of x y w _ ⟨_,_,rfl⟩ (fractions_ok 99 addReal_enter x y hx hy h1 h2 _ _ _ (rat_lt30 ?_) (rat_lt30 (lt29 (lt28 a.d14 b.d14))) (fun w=>plus_frac _ _ _ _ _ _ a.n14 a.d14 b.n14 b.d14 a.nz b.nz w) w hg)
  exact addR_lt28 (lt28 a.n14 b.d14) (lt28 b.n14 a.d14)
theorem subReal_ok (x y : ByteArray) (hx : x.size < 4294967281) (hy : y.size < 4294967281) (h1 : ckR x.data.toList = 0) (h2 : ckR y.data.toList = 0) (w : World) (hg : Gl w) : Calls Tryz.prog 37 #[.string x,.string y] w fun e w'=>e = .returned (resR (addF (frN x.data.toList) (frS x.data.toList) (frD x.data.toList) (frN y.data.toList) (!frS y.data.toList && !decide (frN y.data.toList = 0)) (frD y.data.toList)).1 (addF (frN x.data.toList) (frS x.data.toList) (frD x.data.toList) (frN y.data.toList) (!frS y.data.toList && !decide (frN y.data.toList = 0)) (frD y.data.toList)).2 (frD x.data.toList * frD y.data.toList) false)/\Below w.heap.size w w':=by
  have a:=ckR_ok h1;have b:=ckR_ok h2
  refine subReal_of x y w _ ⟨_,_,rfl⟩ (fractions_ok 103 subReal_enter x y hx hy h1 h2 _ _ _ (rat_lt30 ?_) (rat_lt30 (lt29 (lt28 a.d14 b.d14))) (fun w=>minus_frac _ _ _ _ _ _ a.n14 a.d14 b.n14 b.d14 a.nz b.nz w) w hg)
  exact addR_lt28 (lt28 a.n14 b.d14) (lt28 b.n14 a.d14)
theorem mulReal_ok (x y : ByteArray) (hx : x.size < 4294967281) (hy : y.size < 4294967281) (h1 : ckR x.data.toList = 0) (h2 : ckR y.data.toList = 0) (w : World) (hg : Gl w) : Calls Tryz.prog 39 #[.string x,.string y] w fun e w'=>e = .returned (resR (frN x.data.toList * frN y.data.toList) (mulS (frS x.data.toList) (frS y.data.toList) (frN x.data.toList * frN y.data.toList)) (frD x.data.toList * frD y.data.toList) false)/\Below w.heap.size w w':=by
  have a:=ckR_ok h1;have b:=ckR_ok h2
  exact mulReal_of x y w _ ⟨_,_,rfl⟩ (fractions_ok 105 mulReal_enter x y hx hy h1 h2 _ _ _ (rat_lt30 (lt29 (lt28 a.n14 b.n14))) (rat_lt30 (lt29 (lt28 a.d14 b.d14))) (fun w=>times_frac _ _ _ _ _ _ a.n14 a.d14 b.n14 b.d14 a.nz b.nz w) w hg)
end
section
open Go.RowKit
def nwr (w : World) (p : Nat) (s : Bool) (q : Nat) (t : Bool) : World:=(w.alloc (.cells (frL 0 false 0 false).toArray 115)).setCells w.heap.size 0 (frL p s q t)
theorem nwr_old (w : World) (p : Nat) (s : Bool) (q : Nat) (t : Bool) : Below w.heap.size w (nwr w p s q t):=below_set ((Below.refl _ _).alloc (Nat.le_refl _) _) (Nat.le_refl _) _ _
theorem nwr_at (w : World) (p : Nat) (s : Bool) (q : Nat) (t : Bool) : (nwr w p s q t).rangeAt w.heap.size 0 (frL p s q t):=range_set (there_at rfl _ 115 (by rw [frL_len])) (by rw [frL_len])
theorem nwr_below {w w' : World} {p : Nat} {s : Bool} {q : Nat} {t : Bool} (hb : Below ((w.alloc (.cells (frL 0 false 0 false).toArray 115)).setCells w.heap.size 0 (frL p s q t)).heap.size ((w.alloc (.cells (frL 0 false 0 false).toArray 115)).setCells w.heap.size 0 (frL p s q t)) w') : Below w.heap.size w w' :=
  (nwr_old w p s q t).trans (hb.mono (nwr_old w p s q t).size)
set_option maxHeartbeats 2000000 in
theorem compareReal_ok (x y : ByteArray) (hx : x.size < 4294967281) (hy : y.size < 4294967281) (w : World) (hg : Gl w) (h1 : ckR x.data.toList = 0) (h2 : ckR y.data.toList = 0) : Calls Tryz.prog 43 #[.string x,.string y] w fun e w'=>e = .returned (.tuple #[.int .i64 (cmpF (frN x.data.toList) (frS x.data.toList) (frD x.data.toList) (frN y.data.toList) (frS y.data.toList) (frD y.data.toList)),.int .i64 0])/\Below w.heap.size w w':=by
  have cc:=checkReals_two x y hx hy w hg
  rw [show ckR2 x y = 0 by unfold ckR2;rw [h1,h2];rfl] at cc
  have Cc:=Lib.hid cc
  have HG:=Lib.hid hg
  have a:=ckR_ok h1;have b:=ckR_ok h2
  have C1:=Lib.hid (fun w g=>parse_frac x hx a w g)
  have C2:=Lib.hid (fun w g=>parse_frac y hy b w g)
  have cr:=fun w=>compare_frac (frN x.data.toList) (frS x.data.toList) (frD x.data.toList) (frN y.data.toList) (frS y.data.toList) (frD y.data.toList) a.n14 a.d14 b.n14 b.d14 w
  obtain ⟨r,hr⟩ : ∃ r,cmpF (frN x.data.toList) (frS x.data.toList) (frD x.data.toList) (frN y.data.toList) (frS y.data.toList) (frD y.data.toList) = r:=⟨_,rfl⟩
  rw [hr] at cr ⊢
  have Cr:=Lib.hid cr
  obtain ⟨V1,hV1⟩ : ∃ V,(frL (frN x.data.toList) (frS x.data.toList) (frD x.data.toList) false).toArray = V:=⟨_,rfl⟩
  obtain ⟨V2,hV2⟩ : ∃ V,(frL (frN y.data.toList) (frS y.data.toList) (frD y.data.toList) false).toArray = V:=⟨_,rfl⟩
  rw [hV1] at C1 Cr
  rw [hV2] at C2 Cr
  clear cc cr hr hV1 hV2 a b h1 h2 hg hx hy
  go_enter Tryz.func43,Tryz.ntmps43
  go_wp2_with (first
    | (go_at_call 85;(with_reducible refine (Cc.out).mono ?_);rintro e w1 ⟨rfl,hb1⟩;have HB1:=Lib.hid (below2 hb1);have HG1:=Lib.hid (HG.out.keep2 hb1);clear hb1)
    | (go_at_call 107;(with_reducible refine (C1.out _ HG1.out).mono ?_);rintro e w2 ⟨rfl,hb2⟩;have HB2:=Lib.hid (HB1.out.trans (hb2.mono HB1.out.size));have HG2:=Lib.hid (HG1.out.keep hb2);clear hb2 HG1)
    | (go_at_call 107;(with_reducible refine (C2.out _ HG2.out).mono ?_);rintro e w3 ⟨rfl,hb3⟩;have HB3:=Lib.hid (HB2.out.trans (hb3.mono HB2.out.size));clear hb3 HG2)
    | (go_at_call 111;(with_reducible refine (Cr.out _).mono ?_);rintro e w4 ⟨rfl,hb4⟩;have HB4:=Lib.hid (HB3.out.trans (hb4.mono HB3.out.size));clear hb4))
  go_ret2
  exact ⟨rfl,HB4.out⟩
set_option maxHeartbeats 4000000 in
set_option maxRecDepth 20000 in
theorem divReal_ok (x y : ByteArray) (hx : x.size < 4294967281) (hy : y.size < 4294967281) (w : World) (hg : Gl w) (h1 : ckR x.data.toList = 0) (h2 : ckR y.data.toList = 0) (h3 : frN y.data.toList ≠ 0) : Calls Tryz.prog 41 #[.string x,.string y] w fun e w'=>e = .returned (resR (frN x.data.toList * frD y.data.toList) (mulS (frS x.data.toList) false (frN x.data.toList * frD y.data.toList)) (frD x.data.toList * frN y.data.toList) (mulS false (frS y.data.toList) (frD x.data.toList * frN y.data.toList)))/\Below w.heap.size w w':=by
  have cc:=checkReals_two x y hx hy w hg
  rw [show ckR2 x y = 0 by unfold ckR2;rw [h1,h2];rfl] at cc
  have Cc:=Lib.hid cc
  have HG:=Lib.hid hg
  have a:=ckR_ok h1;have b:=ckR_ok h2
  have C1:=Lib.hid (fun w g=>parse_frac x hx a w g)
  have C2:=Lib.hid (fun w g=>parse_frac y hy b w g)
  have Cz:=Lib.hid (fun w=>isZero_any (frN y.data.toList) (big_of b.n14) w)
  rw [show decide (frN y.data.toList = 0) = false by simpa using h3] at Cz
  have c3:=fun w=>over_frac (frN x.data.toList) (frS x.data.toList) (frD x.data.toList) (frN y.data.toList) (frS y.data.toList) (frD y.data.toList) a.n14 a.d14 b.n14 b.d14 a.nz (Nat.pos_of_ne_zero h3) w
  have c4:=fun w g=>fracResult_any (frN x.data.toList * frD y.data.toList / Nat.gcd (frN x.data.toList * frD y.data.toList) (frD x.data.toList * frN y.data.toList)) (ratS (frN x.data.toList * frD y.data.toList) (mulS (frS x.data.toList) false (frN x.data.toList * frD y.data.toList)) (mulS false (frS y.data.toList) (frD x.data.toList * frN y.data.toList)) && !decide (frN x.data.toList * frD y.data.toList / Nat.gcd (frN x.data.toList * frD y.data.toList) (frD x.data.toList * frN y.data.toList) = 0)) (frD x.data.toList * frN y.data.toList / Nat.gcd (frN x.data.toList * frD y.data.toList) (frD x.data.toList * frN y.data.toList)) false (rat_lt30 (lt29 (lt28 a.n14 b.d14))) (rat_lt30 (lt29 (lt28 a.d14 b.n14))) w g
  change ∀ w,Gl w->Calls Tryz.prog 109 _ w (fun e w'=>e = .returned (resR (frN x.data.toList * frD y.data.toList) (mulS (frS x.data.toList) false (frN x.data.toList * frD y.data.toList)) (frD x.data.toList * frN y.data.toList) (mulS false (frS y.data.toList) (frD x.data.toList * frN y.data.toList)))/\Below w.heap.size w w') at c4
  obtain ⟨R,hR⟩ : ∃ R,resR (frN x.data.toList * frD y.data.toList) (mulS (frS x.data.toList) false (frN x.data.toList * frD y.data.toList)) (frD x.data.toList * frN y.data.toList) (mulS false (frS y.data.toList) (frD x.data.toList * frN y.data.toList)) = R:=⟨_,rfl⟩
  have hR2 : ∃ a b,R = .tuple #[a,b]:=⟨_,_,hR.symm⟩
  rw [hR] at c4 ⊢
  obtain ⟨ra,rb,rfl⟩:=hR2
  unfold frR at c3
  have C3:=Lib.hid c3;have C4:=Lib.hid c4
  obtain ⟨V1,hV1⟩ : ∃ V,(frL (frN x.data.toList) (frS x.data.toList) (frD x.data.toList) false).toArray = V:=⟨_,rfl⟩
  rw [hV1] at C1 C3
  generalize Value.agg (frL (frN x.data.toList * frD y.data.toList / Nat.gcd (frN x.data.toList * frD y.data.toList) (frD x.data.toList * frN y.data.toList)) (ratS (frN x.data.toList * frD y.data.toList) (mulS (frS x.data.toList) false (frN x.data.toList * frD y.data.toList)) (mulS false (frS y.data.toList) (frD x.data.toList * frN y.data.toList)) && !decide (frN x.data.toList * frD y.data.toList / Nat.gcd (frN x.data.toList * frD y.data.toList) (frD x.data.toList * frN y.data.toList) = 0)) (frD x.data.toList * frN y.data.toList / Nat.gcd (frN x.data.toList * frD y.data.toList) (frD x.data.toList * frN y.data.toList)) false).toArray = V3 at C3 C4
  clear c3 c4 cc hR hV1 a b h1 h2 hg hx hy h3
  generalize frN y.data.toList = p2 at *
  generalize frS y.data.toList = s2 at *
  generalize frD y.data.toList = q2 at *
  go_enter Tryz.func41,Tryz.ntmps41
  go_wp2_with (first
    | (go_at_call 85;(with_reducible refine (Cc.out).mono ?_);rintro e w1 ⟨rfl,hb1⟩;have HB1:=Lib.hid (below2 hb1);have HG1:=Lib.hid (HG.out.keep2 hb1);clear hb1)
    | (go_at_call 107;(with_reducible refine (C2.out _ HG1.out).mono ?_);rintro e w2 ⟨rfl,hb2⟩;have HB2:=Lib.hid (HB1.out.trans (hb2.mono HB1.out.size));have HG2:=Lib.hid (HG1.out.keep hb2);clear hb2)
    | ((with_reducible refine al_zb 115 _ w2.heap.size ?_ ?_ z115 ?_);(· exact ⟨rfl,rfl⟩);· rfl)
    | ((with_reducible refine st115 w2.heap.size 0 p2 s2 q2 false ?_ ?_ ?_);(· exact ⟨rfl,_,_,rfl,rfl,rfl⟩);· exact there_at rfl _ 115 (by rw [frL_len]))
    | ((with_reducible refine ld86 w2.heap.size 0 p2 ?_ ?_ ?_);(· exact ⟨rfl,_,rfl,rfl⟩);· exact (range_frl (nwr_at w2 p2 s2 q2 false)).1)
    | (go_at_call 86;(with_reducible refine (Cz.out _).mono ?_);rintro e w3 ⟨rfl,hb3⟩;have HB3:=Lib.hid (HB2.out.trans ((nwr_below hb3).mono HB2.out.size));have HR3:=Lib.hid (range_keep (nwr_at w2 p2 s2 q2 false) hb3);have HG3:=Lib.hid (HG2.out.keep (nwr_below hb3));clear hb3))
  try simp only [Act.put,List.getElem_toArray,List.getElem_cons_succ,List.getElem_cons_zero,List.setIfInBounds_toArray,List.set_cons_zero,List.set_cons_succ]
  have HBx:=Lib.hid HB3.out.drew
  have HRx:=Lib.hid (show w3.drew.rangeAt w2.heap.size 0 (frL p2 s2 q2 false) from HR3.out)
  have HGx:=Lib.hid (gl_drew HG3.out)
  refine wp_region_held_drew (S:=(fun w'=>Below w.heap.size w w'/\w'.rangeAt w2.heap.size 0 (frL p2 s2 q2 false)/\Gl w')) (by kernel_rfl) ?_ (fun hH=>?_)
  · exact ⟨HBx.out,HRx.out,HGx.out⟩
  try dsimp only at hH
  refine wpAnyH_take (i:=0) (v:=(.string x)) rfl (by kernel_rfl) (by kernel_rfl) (by kernel_rfl) (fun _ _ _ h=>h) (Or.inl ⟨by rfl,fun wz hz=>by skip;go_simp⟩) hH ?_
  try simp only [Act.put,List.getElem_toArray,List.getElem_cons_zero,List.setIfInBounds_toArray,List.set_cons_zero,List.set_cons_succ]
  refine wpAnyH_take (i:=2) (v:=(.agg (frL p2 s2 q2 false).toArray)) rfl (by kernel_rfl) (by kernel_rfl) (by kernel_rfl) (fun _ _ _ h=>h) (yld115 w2.heap.size 0 p2 s2 q2 false rfl ⟨_,rfl,rfl⟩ (fun wz hz=>hz.2.1)) hH ?_
  try simp only [Act.put,List.getElem_toArray,List.getElem_cons_succ,List.getElem_cons_zero,List.setIfInBounds_toArray,List.set_cons_zero,List.set_cons_succ]
  refine wpAnyH_ready (rs:=[1]) (by kernel_rfl) (by simp) ?_
  refine AllReadyH.cons rfl (fun K hK=>?_) AllReadyH.nil
  simp only [List.getElem_toArray,List.getElem_cons_succ,List.getElem_cons_zero]
  rw [if_pos (by rfl)]
  go_simp
  refine (C1.out _ hH.2.2).mono ?_;rintro e w1 ⟨rfl,hb1⟩
  try simp only []
  refine hK.out _ _ ?_ (fun hH1=>?_)
  · exact ⟨(hH.1).trans (hb1.mono (hH.1).size),range_keep hH.2.1 hb1,gl_keep hH.2.2 hb1⟩
  clear hK K
  try simp only [Act.put,List.getElem_toArray,List.getElem_cons_succ,List.getElem_cons_zero,List.setIfInBounds_toArray,List.set_cons_zero,List.set_cons_succ]
  refine wpAnyH_ready (rs:=[3]) (by kernel_rfl) (by simp) ?_
  refine AllReadyH.cons rfl (fun K hK=>?_) AllReadyH.nil
  simp only [List.getElem_toArray,List.getElem_cons_succ,List.getElem_cons_zero]
  rw [if_pos (by rfl)]
  go_simp
  refine (C3.out _).mono ?_;rintro e w2 ⟨rfl,hb2⟩
  try simp only []
  refine hK.out _ _ ?_ (fun hH2=>?_)
  · exact ⟨(hH1.1).trans (hb2.mono (hH1.1).size),range_keep hH1.2.1 hb2,gl_keep hH1.2.2 hb2⟩
  clear hK K
  try simp only [Act.put,List.getElem_toArray,List.getElem_cons_succ,List.getElem_cons_zero,List.setIfInBounds_toArray,List.set_cons_zero,List.set_cons_succ]
  refine wpAnyH_ready (rs:=[4]) (by kernel_rfl) (by simp) ?_
  refine AllReadyH.cons rfl (fun K hK=>?_) AllReadyH.nil
  simp only [List.getElem_toArray,List.getElem_cons_succ,List.getElem_cons_zero]
  rw [if_pos (by rfl)]
  go_simp
  refine (C4.out _ hH2.2.2).mono ?_;rintro e w3 ⟨rfl,hb3⟩
  try simp only []
  refine hK.out _ _ ?_ (fun hH3=>?_)
  · exact ⟨(hH2.1).trans (hb3.mono (hH2.1).size),range_keep hH2.2.1 hb3,gl_keep hH2.2.2 hb3⟩
  clear hK K
  try simp only [Act.put,List.getElem_toArray,List.getElem_cons_succ,List.getElem_cons_zero,List.setIfInBounds_toArray,List.set_cons_zero,List.set_cons_succ]
  refine wpAnyH_take (i:=5) (v:=ra) rfl (by kernel_rfl) (by kernel_rfl) (by kernel_rfl) (fun _ _ _ h=>h) (Or.inl ⟨by rfl,fun wz hz=>by skip;go_simp⟩) hH3 ?_
  try simp only [Act.put,List.getElem_toArray,List.getElem_cons_succ,List.getElem_cons_zero,List.setIfInBounds_toArray,List.set_cons_zero,List.set_cons_succ]
  refine wpAnyH_take (i:=6) (v:=rb) rfl (by kernel_rfl) (by kernel_rfl) (by kernel_rfl) (fun _ _ _ h=>h) (Or.inl ⟨by rfl,fun wz hz=>by skip;go_simp⟩) hH3 ?_
  try simp only [Act.put,List.getElem_toArray,List.getElem_cons_succ,List.getElem_cons_zero,List.setIfInBounds_toArray,List.set_cons_zero,List.set_cons_succ]
  refine wpAnyH_take (i:=7) (v:=ra) rfl (by kernel_rfl) (by kernel_rfl) (by kernel_rfl) (fun _ _ _ h=>h) (Or.inl ⟨by rfl,fun wz hz=>by skip;go_simp⟩) hH3 ?_
  try simp only [Act.put,List.getElem_toArray,List.getElem_cons_succ,List.getElem_cons_zero,List.setIfInBounds_toArray,List.set_cons_zero,List.set_cons_succ]
  refine wpAnyH_take (i:=8) (v:=rb) rfl (by kernel_rfl) (by kernel_rfl) (by kernel_rfl) (fun _ _ _ h=>h) (Or.inl ⟨by rfl,fun wz hz=>by skip;go_simp⟩) hH3 ?_
  try simp only [Act.put,List.getElem_toArray,List.getElem_cons_succ,List.getElem_cons_zero,List.setIfInBounds_toArray,List.set_cons_zero,List.set_cons_succ]
  refine wpAnyH_done (by kernel_rfl) ?_ _
  go_wp2
  go_ret2
  exact ⟨rfl,hH3.1⟩
end
section
open Go.RowKit
theorem nws_below {w w' : World} {n : Nat} {s : Bool} (hb : Below ((w.alloc (.cells (sgL 0 false).toArray 88)).setCells w.heap.size 0 (sgL n s)).heap.size ((w.alloc (.cells (sgL 0 false).toArray 88)).setCells w.heap.size 0 (sgL n s)) w') : Below w.heap.size w w' :=
  (nws_old w n s).trans (hb.mono (nws_old w n s).size)
set_option maxHeartbeats 4000000 in
set_option maxRecDepth 20000 in
theorem real_ok (x y : ByteArray) (w : World) (hg : Gl w) (h1 : ckL x.data.toList = 0) (h2 : ckL y.data.toList = 0) (h3 : intM y.data.toList ≠ 0) : Calls Tryz.prog 47 #[.string x,.string y] w fun e w'=>e = .returned (resR (intM x.data.toList) (intS x.data.toList) (intM y.data.toList) (intS y.data.toList))/\Below w.heap.size w w':=by
  have cc:=checks_two x y w hg
  rw [h1,h2,show firstE [0,0] = 0 from rfl] at cc
  have Cc:=Lib.hid cc
  have HG:=Lib.hid hg
  have C1:=Lib.hid (fun w g=>parse_ck x h1 w g)
  have C2:=Lib.hid (fun w g=>parse_ck y h2 w g)
  have Cz:=Lib.hid (fun w=>isZero_any (intM y.data.toList) (intM_lt _ h2) w)
  rw [show decide (intM y.data.toList = 0) = false by simpa using h3] at Cz
  have c3:=fun w=>ratio_any (intM x.data.toList) (intS x.data.toList) (intM y.data.toList) (intS y.data.toList) (up29 (intM_small _ h1)) (up29 (intM_small _ h2)) (Nat.pos_of_ne_zero h3) w
  have c4:=fun w g=>fracResult_any (intM x.data.toList / Nat.gcd (intM x.data.toList) (intM y.data.toList)) (ratS (intM x.data.toList) (intS x.data.toList) (intS y.data.toList) && !decide (intM x.data.toList / Nat.gcd (intM x.data.toList) (intM y.data.toList) = 0)) (intM y.data.toList / Nat.gcd (intM x.data.toList) (intM y.data.toList)) false (rat_lt30 (up29 (intM_small _ h1))) (rat_lt30 (up29 (intM_small _ h2))) w g
  change ∀ w,Gl w->Calls Tryz.prog 109 _ w (fun e w'=>e = .returned (resR (intM x.data.toList) (intS x.data.toList) (intM y.data.toList) (intS y.data.toList))/\Below w.heap.size w w') at c4
  obtain ⟨R,hR⟩ : ∃ R,resR (intM x.data.toList) (intS x.data.toList) (intM y.data.toList) (intS y.data.toList) = R:=⟨_,rfl⟩
  have hR2 : ∃ a b,R = .tuple #[a,b]:=⟨_,_,hR.symm⟩
  rw [hR] at c4 ⊢
  obtain ⟨ra,rb,rfl⟩:=hR2
  have C3:=Lib.hid c3;have C4:=Lib.hid c4
  obtain ⟨V1,hV1⟩ : ∃ V,(sgL (intM x.data.toList) (intS x.data.toList)).toArray = V:=⟨_,rfl⟩
  rw [hV1] at C1 C3
  generalize Value.agg (frL (intM x.data.toList / Nat.gcd (intM x.data.toList) (intM y.data.toList)) (ratS (intM x.data.toList) (intS x.data.toList) (intS y.data.toList) && !decide (intM x.data.toList / Nat.gcd (intM x.data.toList) (intM y.data.toList) = 0)) (intM y.data.toList / Nat.gcd (intM x.data.toList) (intM y.data.toList)) false).toArray = V3 at C3 C4
  clear c3 c4 cc hR hV1 h1 h2 hg h3
  generalize intM y.data.toList = p2 at *
  generalize intS y.data.toList = s2 at *
  go_enter Tryz.func47,Tryz.ntmps47
  go_wp2_with (first
    | (go_at_call 85;(with_reducible refine (Cc.out).mono ?_);rintro e w1 ⟨rfl,hb1⟩;have HB1:=Lib.hid (below2 hb1);have HG1:=Lib.hid (HG.out.keep2 hb1);clear hb1)
    | (go_at_call 72;(with_reducible refine (C2.out _ HG1.out).mono ?_);rintro e w2 ⟨rfl,hb2⟩;have HB2:=Lib.hid (HB1.out.trans (hb2.mono HB1.out.size));have HG2:=Lib.hid (HG1.out.keep hb2);clear hb2)
    | ((with_reducible refine al_zb 88 _ w2.heap.size ?_ ?_ z88 ?_);(· exact ⟨rfl,rfl⟩);· rfl)
    | ((with_reducible refine st88 w2.heap.size 0 p2 s2 ?_ ?_ ?_);(· exact ⟨rfl,_,_,rfl,rfl,rfl⟩);· exact there_at rfl _ 88 (by rw [sgL_len]))
    | ((with_reducible refine ld86 w2.heap.size 0 p2 ?_ ?_ ?_);(· exact ⟨rfl,_,rfl,rfl⟩);· exact (range_sg (nws_at w2 p2 s2)).1)
    | (go_at_call 86;(with_reducible refine (Cz.out _).mono ?_);rintro e w3 ⟨rfl,hb3⟩;have HB3:=Lib.hid (HB2.out.trans ((nws_below hb3).mono HB2.out.size));have HR3:=Lib.hid (range_keep (nws_at w2 p2 s2) hb3);have HG3:=Lib.hid (HG2.out.keep (nws_below hb3));clear hb3))
  try simp only [Act.put,List.getElem_toArray,List.getElem_cons_succ,List.getElem_cons_zero,List.setIfInBounds_toArray,List.set_cons_zero,List.set_cons_succ]
  have HBx:=Lib.hid HB3.out.drew
  have HRx:=Lib.hid (show w3.drew.rangeAt w2.heap.size 0 (sgL p2 s2) from HR3.out)
  have HGx:=Lib.hid (gl_drew HG3.out)
  refine wp_region_held_drew (S:=(fun w'=>Below w.heap.size w w'/\w'.rangeAt w2.heap.size 0 (sgL p2 s2)/\Gl w')) (by kernel_rfl) ?_ (fun hH=>?_)
  · exact ⟨HBx.out,HRx.out,HGx.out⟩
  try dsimp only at hH
  refine wpAnyH_take (i:=0) (v:=(.string x)) rfl (by kernel_rfl) (by kernel_rfl) (by kernel_rfl) (fun _ _ _ h=>h) (Or.inl ⟨by rfl,fun wz hz=>by skip;go_simp⟩) hH ?_
  try simp only [Act.put,List.getElem_toArray,List.getElem_cons_zero,List.setIfInBounds_toArray,List.set_cons_zero,List.set_cons_succ]
  refine wpAnyH_take (i:=2) (v:=(.agg (sgL p2 s2).toArray)) rfl (by kernel_rfl) (by kernel_rfl) (by kernel_rfl) (fun _ _ _ h=>h) (yld88 w2.heap.size 0 p2 s2 rfl ⟨_,rfl,rfl⟩ (fun wz hz=>hz.2.1)) hH ?_
  try simp only [Act.put,List.getElem_toArray,List.getElem_cons_succ,List.getElem_cons_zero,List.setIfInBounds_toArray,List.set_cons_zero,List.set_cons_succ]
  refine wpAnyH_ready (rs:=[1]) (by kernel_rfl) (by simp) ?_
  refine AllReadyH.cons rfl (fun K hK=>?_) AllReadyH.nil
  simp only [List.getElem_toArray,List.getElem_cons_succ,List.getElem_cons_zero]
  rw [if_pos (by rfl)]
  go_simp
  refine (C1.out _ hH.2.2).mono ?_;rintro e w1 ⟨rfl,hb1⟩
  try simp only []
  refine hK.out _ _ ?_ (fun hH1=>?_)
  · exact ⟨(hH.1).trans (hb1.mono (hH.1).size),range_keep hH.2.1 hb1,gl_keep hH.2.2 hb1⟩
  clear hK K
  try simp only [Act.put,List.getElem_toArray,List.getElem_cons_succ,List.getElem_cons_zero,List.setIfInBounds_toArray,List.set_cons_zero,List.set_cons_succ]
  refine wpAnyH_ready (rs:=[3]) (by kernel_rfl) (by simp) ?_
  refine AllReadyH.cons rfl (fun K hK=>?_) AllReadyH.nil
  simp only [List.getElem_toArray,List.getElem_cons_succ,List.getElem_cons_zero]
  rw [if_pos (by rfl)]
  go_simp
  refine (C3.out _).mono ?_;rintro e w2 ⟨rfl,hb2⟩
  try simp only []
  refine hK.out _ _ ?_ (fun hH2=>?_)
  · exact ⟨(hH1.1).trans (hb2.mono (hH1.1).size),range_keep hH1.2.1 hb2,gl_keep hH1.2.2 hb2⟩
  clear hK K
  try simp only [Act.put,List.getElem_toArray,List.getElem_cons_succ,List.getElem_cons_zero,List.setIfInBounds_toArray,List.set_cons_zero,List.set_cons_succ]
  refine wpAnyH_ready (rs:=[4]) (by kernel_rfl) (by simp) ?_
  refine AllReadyH.cons rfl (fun K hK=>?_) AllReadyH.nil
  simp only [List.getElem_toArray,List.getElem_cons_succ,List.getElem_cons_zero]
  rw [if_pos (by rfl)]
  go_simp
  refine (C4.out _ hH2.2.2).mono ?_;rintro e w3 ⟨rfl,hb3⟩
  try simp only []
  refine hK.out _ _ ?_ (fun hH3=>?_)
  · exact ⟨(hH2.1).trans (hb3.mono (hH2.1).size),range_keep hH2.2.1 hb3,gl_keep hH2.2.2 hb3⟩
  clear hK K
  try simp only [Act.put,List.getElem_toArray,List.getElem_cons_succ,List.getElem_cons_zero,List.setIfInBounds_toArray,List.set_cons_zero,List.set_cons_succ]
  refine wpAnyH_take (i:=5) (v:=ra) rfl (by kernel_rfl) (by kernel_rfl) (by kernel_rfl) (fun _ _ _ h=>h) (Or.inl ⟨by rfl,fun wz hz=>by skip;go_simp⟩) hH3 ?_
  try simp only [Act.put,List.getElem_toArray,List.getElem_cons_succ,List.getElem_cons_zero,List.setIfInBounds_toArray,List.set_cons_zero,List.set_cons_succ]
  refine wpAnyH_take (i:=6) (v:=rb) rfl (by kernel_rfl) (by kernel_rfl) (by kernel_rfl) (fun _ _ _ h=>h) (Or.inl ⟨by rfl,fun wz hz=>by skip;go_simp⟩) hH3 ?_
  try simp only [Act.put,List.getElem_toArray,List.getElem_cons_succ,List.getElem_cons_zero,List.setIfInBounds_toArray,List.set_cons_zero,List.set_cons_succ]
  refine wpAnyH_take (i:=7) (v:=ra) rfl (by kernel_rfl) (by kernel_rfl) (by kernel_rfl) (fun _ _ _ h=>h) (Or.inl ⟨by rfl,fun wz hz=>by skip;go_simp⟩) hH3 ?_
  try simp only [Act.put,List.getElem_toArray,List.getElem_cons_succ,List.getElem_cons_zero,List.setIfInBounds_toArray,List.set_cons_zero,List.set_cons_succ]
  refine wpAnyH_take (i:=8) (v:=rb) rfl (by kernel_rfl) (by kernel_rfl) (by kernel_rfl) (fun _ _ _ h=>h) (Or.inl ⟨by rfl,fun wz hz=>by skip;go_simp⟩) hH3 ?_
  try simp only [Act.put,List.getElem_toArray,List.getElem_cons_succ,List.getElem_cons_zero,List.setIfInBounds_toArray,List.set_cons_zero,List.set_cons_succ]
  refine wpAnyH_done (by kernel_rfl) ?_ _
  go_wp2
  go_ret2
  exact ⟨rfl,hH3.1⟩
end
end Go.Proofs.YtpbegoflpfdajaaGreatDoor
/- WHAT IS PROVED: contracts of functions of the numbers package and laws for them, used by the last text of this claim. CONDITIONS: stated at each theorem. -/
import Derived.Test.YtpbegoflpfdajaaGreatDoorN51
import Derived.Test.YtpbegoflpfdajaaGreatDoorN35
import Derived.Test.YtpbegoflpfdajaaGreatDoorN32
namespace Go.Proofs.YtpbegoflpfdajaaGreatDoor
section
open Go.RowKit
theorem str_cells2 (w : World) (a b : ByteArray) (t : TypeId) (i : Nat) (h : i < [a,b].length) : (w.alloc (.cells #[.string a,.string b] t)).cell? ⟨w.heap.size,i,none⟩ = some (.string [a,b][i]):=by
  match i,h with
  | 0,_=>simp
  | 1,_=>simp
set_option maxHeartbeats 4000000 in
set_option maxRecDepth 20000 in
theorem fracs_walk (a b s1 s2 s3 s4 : ByteArray) (c E1 E2 E3 E4 E5 : Int)
    (A10 : ∀ w,Gl w->Calls Tryz.prog 10 #[] w fun e w'=>e = .returned (.bool true)/\Below w.heap.size w w')
    (A11 : ∀ (W : World) (g c : Nat),(∀ i (h : i < [a,b].length),W.cell? ⟨g,i,none⟩ = some (.string [a,b][i]))->Calls Tryz.prog 11 #[.slice (some ⟨g,0,none⟩) 2 c] W fun e w'=>e = .returned (.bool false)/\w' = W)
    (A35 : ∀ w,Gl w->Calls Tryz.prog 35 #[.string a,.string b] w fun e w'=>e = .returned (.tuple #[.string s1,.int .i64 E1])/\Below w.heap.size w w')
    (A36 : ∀ w,Calls Tryz.prog 36 #[.string a,.string b] w fun e w'=>e = .returned (.tuple #[.string s1,.int .i64 E1])/\Below w.heap.size w w')
    (A37 : ∀ w,Gl w->Calls Tryz.prog 37 #[.string a,.string b] w fun e w'=>e = .returned (.tuple #[.string s2,.int .i64 E2])/\Below w.heap.size w w')
    (A38 : ∀ w,Calls Tryz.prog 38 #[.string a,.string b] w fun e w'=>e = .returned (.tuple #[.string s2,.int .i64 E2])/\Below w.heap.size w w')
    (A39 : ∀ w,Gl w->Calls Tryz.prog 39 #[.string a,.string b] w fun e w'=>e = .returned (.tuple #[.string s3,.int .i64 E3])/\Below w.heap.size w w')
    (A40 : ∀ w,Calls Tryz.prog 40 #[.string a,.string b] w fun e w'=>e = .returned (.tuple #[.string s3,.int .i64 E3])/\Below w.heap.size w w')
    (A41 : ∀ w,Gl w->Calls Tryz.prog 41 #[.string a,.string b] w fun e w'=>e = .returned (.tuple #[.string s4,.int .i64 E4])/\Below w.heap.size w w')
    (A42 : ∀ w,Calls Tryz.prog 42 #[.string a,.string b] w fun e w'=>e = .returned (.tuple #[.string s4,.int .i64 E4])/\Below w.heap.size w w')
    (A43 : ∀ w,Gl w->Calls Tryz.prog 43 #[.string a,.string b] w fun e w'=>e = .returned (.tuple #[.int .i64 c,.int .i64 E5])/\Below w.heap.size w w')
    (A44 : ∀ w,Calls Tryz.prog 44 #[.string a,.string b] w fun e w'=>e = .returned (.tuple #[.int .i64 c,.int .i64 E5])/\Below w.heap.size w w')
    (w : World) (hg : Gl w) : Calls Tryz.prog 4 #[.string a,.string b] w fun e w'=>e = .returned (.bool true)/\Below w.heap.size w w':=by
  have D10:=Lib.hid A10;clear A10
  have D11:=Lib.hid A11;clear A11
  have D35:=Lib.hid A35;clear A35
  have D36:=Lib.hid A36;clear A36
  have D37:=Lib.hid A37;clear A37
  have D38:=Lib.hid A38;clear A38
  have D39:=Lib.hid A39;clear A39
  have D40:=Lib.hid A40;clear A40
  have D41:=Lib.hid A41;clear A41
  have D42:=Lib.hid A42;clear A42
  have D43:=Lib.hid A43;clear A43
  have D44:=Lib.hid A44;clear A44
  have Bo:=Lib.hid both_any
  have G0:=Lib.hid hg
  have B0:=Lib.hid (Below.refl w.heap.size w);clear hg
  go_enter Tryz.func4,Tryz.ntmps4
  go_wp2_with (first
    | (go_at_call 10;(with_reducible refine (D10.out _ G0.out).mono ?_);rintro e w1 ⟨rfl,hb⟩;have B1:=Lib.hid (B0.out.trans (hb.mono B0.out.size));have G1:=Lib.hid (G0.out.keep hb);clear hb B0 G0)
    | (go_at_call 11;(with_reducible refine (D11.out _ _ _ (str_cells2 _ _ _ _)).mono ?_);rintro e w2 ⟨rfl,hw⟩;have B2 : Hid (Below w.heap.size w w2):=Lib.hid (by rw [hw];exact B1.out.alloc B1.out.size _);have G2 : Hid (Gl w2):=Lib.hid (by rw [hw];exact G1.out.keep (by repeat' first | exact Below.refl _ _ | assumption | refine Below.setCell ?_ ?_ _ | refine Below.alloc ?_ ?_ _ | refine below_drewN ?_ | refine Below.drew ?_ | (simp;done) | (simp;omega)));clear hw B1 G1)
    | (go_at_call 35;(with_reducible refine (D35.out _ G2.out).mono ?_);rintro e w3 ⟨rfl,hb⟩;have B3:=Lib.hid (B2.out.trans (hb.mono B2.out.size));have G3:=Lib.hid (G2.out.keep hb);clear hb B2 G2)
    | (go_at_call 36;(with_reducible refine (D36.out _).mono ?_);rintro e w4 ⟨rfl,hb⟩;have B4:=Lib.hid (B3.out.trans (hb.mono B3.out.size));have G4:=Lib.hid (G3.out.keep hb);clear hb B3 G3)
    | (go_at_call 20;(with_reducible refine (Bo.out s1 E1 _).mono ?_);rintro e w5 ⟨rfl,hw⟩;have B5 : Hid (Below w.heap.size w w5):=Lib.hid (by rw [hw];exact B4.out);have G5 : Hid (Gl w5):=Lib.hid (by rw [hw];exact G4.out);clear hw B4 G4)
    | (go_at_call 37;(with_reducible refine (D37.out _ G5.out).mono ?_);rintro e w6 ⟨rfl,hb⟩;have B6:=Lib.hid (B5.out.trans (hb.mono B5.out.size));have G6:=Lib.hid (G5.out.keep hb);clear hb B5 G5)
    | (go_at_call 38;(with_reducible refine (D38.out _).mono ?_);rintro e w7 ⟨rfl,hb⟩;have B7:=Lib.hid (B6.out.trans (hb.mono B6.out.size));have G7:=Lib.hid (G6.out.keep hb);clear hb B6 G6)
    | (go_at_call 20;(with_reducible refine (Bo.out s2 E2 _).mono ?_);rintro e w8 ⟨rfl,hw⟩;have B8 : Hid (Below w.heap.size w w8):=Lib.hid (by rw [hw];exact B7.out);have G8 : Hid (Gl w8):=Lib.hid (by rw [hw];exact G7.out);clear hw B7 G7)
    | (go_at_call 39;(with_reducible refine (D39.out _ G8.out).mono ?_);rintro e w9 ⟨rfl,hb⟩;have B9:=Lib.hid (B8.out.trans (hb.mono B8.out.size));have G9:=Lib.hid (G8.out.keep hb);clear hb B8 G8)
    | (go_at_call 40;(with_reducible refine (D40.out _).mono ?_);rintro e w10 ⟨rfl,hb⟩;have B10:=Lib.hid (B9.out.trans (hb.mono B9.out.size));have G10:=Lib.hid (G9.out.keep hb);clear hb B9 G9)
    | (go_at_call 20;(with_reducible refine (Bo.out s3 E3 _).mono ?_);rintro e w11 ⟨rfl,hw⟩;have B11 : Hid (Below w.heap.size w w11):=Lib.hid (by rw [hw];exact B10.out);have G11 : Hid (Gl w11):=Lib.hid (by rw [hw];exact G10.out);clear hw B10 G10)
    | (go_at_call 41;(with_reducible refine (D41.out _ G11.out).mono ?_);rintro e w12 ⟨rfl,hb⟩;have B12:=Lib.hid (B11.out.trans (hb.mono B11.out.size));have G12:=Lib.hid (G11.out.keep hb);clear hb B11 G11)
    | (go_at_call 42;(with_reducible refine (D42.out _).mono ?_);rintro e w13 ⟨rfl,hb⟩;have B13:=Lib.hid (B12.out.trans (hb.mono B12.out.size));have G13:=Lib.hid (G12.out.keep hb);clear hb B12 G12)
    | (go_at_call 20;(with_reducible refine (Bo.out s4 E4 _).mono ?_);rintro e w14 ⟨rfl,hw⟩;have B14 : Hid (Below w.heap.size w w14):=Lib.hid (by rw [hw];exact B13.out);have G14 : Hid (Gl w14):=Lib.hid (by rw [hw];exact G13.out);clear hw B13 G13)
    | (go_at_call 43;(with_reducible refine (D43.out _ G14.out).mono ?_);rintro e w15 ⟨rfl,hb⟩;have B15:=Lib.hid (B14.out.trans (hb.mono B14.out.size));have G15:=Lib.hid (G14.out.keep hb);clear hb B14 G14)
    | (go_at_call 44;(with_reducible refine (D44.out _).mono ?_);rintro e w16 ⟨rfl,hb⟩;have B16:=Lib.hid (B15.out.trans (hb.mono B15.out.size));have G16:=Lib.hid (G15.out.keep hb);clear hb B15 G15))
  go_ret
  exact ⟨rfl,B16.out⟩
end
section
open Go.RowKit
theorem addR_both (x y : ByteArray) (sx : x.size <= 300) (sy : y.size <= 300) : ∃ s E,(∀ w,Gl w->Calls Tryz.prog 35 #[.string x,.string y] w fun e w'=>e = .returned (.tuple #[.string s,.int .i64 E])/\Below w.heap.size w w')/\(∀ w,Calls Tryz.prog 36 #[.string x,.string y] w fun e w'=>e = .returned (.tuple #[.string s,.int .i64 E])/\Below w.heap.size w w'):=by
  by_cases h : ckR2 x y = 0
  · obtain ⟨hx,hy⟩:=ckR2_zero h
    exact ⟨_,_,fun w hg=>addReal_ok x y (by omega) (by omega) hx hy w hg,fun w=>refAddReal_ok x y sx sy hx hy w⟩
  · exact ⟨_,_,fun w hg=>addReal_of x y w _ ⟨_,_,rfl⟩ (fractions_err 99 x y (by omega) (by omega) h w hg),fun w=>refAddReal_err x y sx sy h w⟩
theorem subR_both (x y : ByteArray) (sx : x.size <= 300) (sy : y.size <= 300) : ∃ s E,(∀ w,Gl w->Calls Tryz.prog 37 #[.string x,.string y] w fun e w'=>e = .returned (.tuple #[.string s,.int .i64 E])/\Below w.heap.size w w')/\(∀ w,Calls Tryz.prog 38 #[.string x,.string y] w fun e w'=>e = .returned (.tuple #[.string s,.int .i64 E])/\Below w.heap.size w w'):=by
  by_cases h : ckR2 x y = 0
  · obtain ⟨hx,hy⟩:=ckR2_zero h
    exact ⟨_,_,fun w hg=>subReal_ok x y (by omega) (by omega) hx hy w hg,fun w=>refSubReal_ok x y sx sy hx hy w⟩
  · exact ⟨_,_,fun w hg=>subReal_of x y w _ ⟨_,_,rfl⟩ (fractions_err 103 x y (by omega) (by omega) h w hg),fun w=>refSubReal_err x y sx sy h w⟩
theorem mulR_both (x y : ByteArray) (sx : x.size <= 300) (sy : y.size <= 300) : ∃ s E,(∀ w,Gl w->Calls Tryz.prog 39 #[.string x,.string y] w fun e w'=>e = .returned (.tuple #[.string s,.int .i64 E])/\Below w.heap.size w w')/\(∀ w,Calls Tryz.prog 40 #[.string x,.string y] w fun e w'=>e = .returned (.tuple #[.string s,.int .i64 E])/\Below w.heap.size w w'):=by
  by_cases h : ckR2 x y = 0
  · obtain ⟨hx,hy⟩:=ckR2_zero h
    exact ⟨_,_,fun w hg=>mulReal_ok x y (by omega) (by omega) hx hy w hg,fun w=>refMulReal_ok x y sx sy hx hy w⟩
  · exact ⟨_,_,fun w hg=>mulReal_of x y w _ ⟨_,_,rfl⟩ (fractions_err 105 x y (by omega) (by omega) h w hg),fun w=>refMulReal_err x y sx sy h w⟩
theorem divR_both (x y : ByteArray) (sx : x.size <= 300) (sy : y.size <= 300) : ∃ s E,(∀ w,Gl w->Calls Tryz.prog 41 #[.string x,.string y] w fun e w'=>e = .returned (.tuple #[.string s,.int .i64 E])/\Below w.heap.size w w')/\(∀ w,Calls Tryz.prog 42 #[.string x,.string y] w fun e w'=>e = .returned (.tuple #[.string s,.int .i64 E])/\Below w.heap.size w w'):=by
  by_cases h : ckR2 x y = 0
  · obtain ⟨hx,hy⟩:=ckR2_zero h
    by_cases h0 : frN y.data.toList = 0
    · exact ⟨_,_,fun w hg=>divReal_zero x y (by omega) (by omega) w hg hx hy h0,fun w=>refDivRealZ_ok x y sx sy hx hy h0 w⟩
    · exact ⟨_,_,fun w hg=>divReal_ok x y (by omega) (by omega) w hg hx hy h0,fun w=>refDivReal_ok x y sx sy hx hy h0 w⟩
  · exact ⟨_,_,fun w hg=>divReal_err x y (by omega) (by omega) w hg h,fun w=>refDivReal_err x y sx sy h w⟩
theorem cmpR_both (x y : ByteArray) (sx : x.size <= 300) (sy : y.size <= 300) : ∃ c E : Int,(∀ w,Gl w->Calls Tryz.prog 43 #[.string x,.string y] w fun e w'=>e = .returned (.tuple #[.int .i64 c,.int .i64 E])/\Below w.heap.size w w')/\(∀ w,Calls Tryz.prog 44 #[.string x,.string y] w fun e w'=>e = .returned (.tuple #[.int .i64 c,.int .i64 E])/\Below w.heap.size w w'):=by
  by_cases h : ckR2 x y = 0
  · obtain ⟨hx,hy⟩:=ckR2_zero h
    refine ⟨icmp (sgn (frN x.data.toList) (frS x.data.toList) * frD y.data.toList) (sgn (frN y.data.toList) (frS y.data.toList) * frD x.data.toList),0,fun w hg=>?_,fun w=>refCompareReal_ok x y sx sy hx hy w⟩
    have c:=compareReal_ok x y (by omega) (by omega) w hg hx hy
    rwa [cmpF_icmp] at c
  · exact ⟨0,_,fun w hg=>compareReal_err x y (by omega) (by omega) w hg h,fun w=>refCompareReal_err x y sx sy h w⟩
set_option maxHeartbeats 2000000 in
set_option maxRecDepth 20000 in
theorem fracs_long (a b : ByteArray)
    (A10 : ∀ w,Gl w->Calls Tryz.prog 10 #[] w fun e w'=>e = .returned (.bool true)/\Below w.heap.size w w')
    (A11 : ∀ (W : World) (g c : Nat),(∀ i (h : i < [a,b].length),W.cell? ⟨g,i,none⟩ = some (.string [a,b][i]))->Calls Tryz.prog 11 #[.slice (some ⟨g,0,none⟩) 2 c] W fun e w'=>e = .returned (.bool true)/\w' = W)
    (w : World) (hg : Gl w) : Calls Tryz.prog 4 #[.string a,.string b] w fun e w'=>e = .returned (.bool true)/\Below w.heap.size w w':=by
  have D10:=Lib.hid A10;clear A10
  have D11:=Lib.hid A11;clear A11
  have G0:=Lib.hid hg
  have B0:=Lib.hid (Below.refl w.heap.size w);clear hg
  go_enter Tryz.func4,Tryz.ntmps4
  go_wp2_with (first
    | (go_at_call 10;(with_reducible refine (D10.out _ G0.out).mono ?_);rintro e w1 ⟨rfl,hb⟩;have B1:=Lib.hid (B0.out.trans (hb.mono B0.out.size));have G1:=Lib.hid (G0.out.keep hb);clear hb B0 G0)
    | (go_at_call 11;(with_reducible refine (D11.out _ _ _ (str_cells2 _ _ _ _)).mono ?_);rintro e w2 ⟨rfl,hw⟩;have B2 : Hid (Below w.heap.size w w2):=Lib.hid (by rw [hw];exact B1.out.alloc B1.out.size _);have G2 : Hid (Gl w2):=Lib.hid (by rw [hw];exact G1.out.keep (by repeat' first | exact Below.refl _ _ | assumption | refine Below.setCell ?_ ?_ _ | refine Below.alloc ?_ ?_ _ | refine below_drewN ?_ | refine Below.drew ?_ | (simp;done) | (simp;omega)));clear hw B1 G1)
    | (go_at_call 10;(with_reducible refine (D10.out _ G2.out).mono ?_);rintro e w3 ⟨rfl,hb⟩;have B3:=Lib.hid (B2.out.trans (hb.mono B2.out.size));clear hb B2 G2))
  go_ret
  exact ⟨rfl,B3.out⟩
theorem fracs_any (a b : ByteArray) (w : World) (hg : Gl w) : Calls Tryz.prog 4 #[.string a,.string b] w fun e w'=>e = .returned (.bool true)/\Below w.heap.size w w':=by
  have L : ∀ (W : World) (g c : Nat),(∀ i (h : i < [a,b].length),W.cell? ⟨g,i,none⟩ = some (.string [a,b][i]))->Calls Tryz.prog 11 #[.slice (some ⟨g,0,none⟩) 2 c] W fun e w'=>e = .returned (.bool (longL [a,b]))/\w' = W:=fun W g c h=>long_any g 2 c [a,b] rfl (by omega) W h
  by_cases hl : longL [a,b] = true
  · rw [hl] at L
    exact fracs_long a b awake_any L w hg
  · rw [Bool.not_eq_true] at hl
    rw [hl] at L
    have hs : a.size <= 300/\b.size <= 300:=by
      have:=hl
      unfold longL at this
      simp only [List.any_cons,List.any_nil,Bool.or_false,Bool.or_eq_false_iff,decide_eq_false_iff_not] at this
      omega
    obtain ⟨sa,sb⟩:=hs
    obtain ⟨s1,E1,f1,g1⟩:=addR_both a b sa sb
    obtain ⟨s2,E2,f2,g2⟩:=subR_both a b sa sb
    obtain ⟨s3,E3,f3,g3⟩:=mulR_both a b sa sb
    obtain ⟨s4,E4,f4,g4⟩:=divR_both a b sa sb
    obtain ⟨c,E5,f5,g5⟩:=cmpR_both a b sa sb
    exact fracs_walk a b s1 s2 s3 s4 c E1 E2 E3 E4 E5 awake_any L f1 g1 f2 g2 f3 g3 f4 g4 f5 g5 w hg
end
end Go.Proofs.YtpbegoflpfdajaaGreatDoor
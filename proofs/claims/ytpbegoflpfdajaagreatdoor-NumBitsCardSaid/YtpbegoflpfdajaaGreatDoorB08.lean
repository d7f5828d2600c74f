/- WHAT IS PROVED: contracts of functions of the numbers package and laws for them, used by the last text of this claim. CONDITIONS: stated at each theorem. -/
import Derived.Test.YtpbegoflpfdajaaGreatDoorB05
import Derived.Test.YtpbegoflpfdajaaGreatDoorB07
namespace Go.Proofs.YtpbegoflpfdajaaGreatDoor
open Go.RowKit

theorem AllDig.lt {l : List UInt8} (h : AllDig l) : valL l < bb ^ 30:=by
  have:=valL_lt l (fun c hc=>by
    obtain ⟨i,hi,rfl⟩:=List.getElem_of_mem hc
    simp only [isDig,decide_eq_true_eq]
    exact h.2 i hi)
  refine Nat.lt_of_lt_of_le this ?_
  have key : ∀ c,l.length <= 9 * c->10 ^ l.length <= bb ^ c:=fun c h=>by rw [bb_ten,<- Nat.pow_mul];exact Nat.pow_le_pow_right (by omega) h
  exact key 30 h.1

set_option maxHeartbeats 1000000 in
theorem parse_t (s : ByteArray) (l : List UInt8) (hs : s.data.toList = 45 :: l) (hd : AllDig l) (w : World) (hp : Pow w) :
    Calls Tryz.prog 72 #[.string s] w fun e w'=>e = .returned (.agg (sgL (valL l) (true && !decide (valL l = 0))).toArray)/\Below w.heap.size w w':=by
  have hsz : s.size = l.length + 1:=by have:=congrArg List.length hs;simpa using this
  have hle:=hd.1
  have hx : (s.extract 1 s.size).data.toList = l:=by simp [hs,hsz]
  have Hd:=Lib.hid (show AllDig (s.extract 1 s.size).data.toList by rw [hx];exact hd)
  have Hlt:=Lib.hid hd.lt
  have h0 : 0 < s.size:=by omega
  have hg : s[0]'h0 = 45 := by have : s.data.toList[0]'(by simp [hs]) = 45 := by simp [hs]
                               simpa [ByteArray.getElem_eq_getElem_data] using this
  have HP:=Lib.hid (show Pow (w.alloc (.cells (sgL 0 false).toArray 88)) from hp.keep ((Below.refl _ w).alloc (Nat.le_refl _) _));clear hp
  have HB:=Lib.hid (show Below w.heap.size w (w.alloc (.cells (sgL 0 false).toArray 88)) from (Below.refl w.heap.size w).alloc (Nat.le_refl _) _)
  have Ht:=Lib.hid (show (w.alloc (.cells (sgL 0 false).toArray 88)).there w.heap.size 0 31 from there_at rfl _ 88 (by rw [sgL_len]))
  have ct:=parseMag_any (s.extract 1 s.size) Hd.out _ HP.out
  rw [hx] at ct
  have Ct:=Lib.hid ct;clear ct hd hs hx
  have h1s : 1 <= s.size:=h0
  have hs2 : s.size <= 271:=by omega
  clear hsz hle
  go_enter Tryz.func72,Tryz.ntmps72
  go_wp2_with (first
    | ((with_reducible refine al_zb 88 _ w.heap.size ?_ ?_ z88 ?_);(· exact ⟨rfl,rfl⟩);· (simp;done))
    | (go_at_call 120;(with_reducible refine (Ct.out).mono ?_);rintro e w1 ⟨rfl,hb1⟩;have HB1:=Lib.hid hb1;clear hb1)
    | (go_at_call 93;(with_reducible refine (number_any (valL l) true Hlt.out _).mono ?_);rintro e w2 ⟨rfl,hb2⟩;have HB2:=Lib.hid hb2;clear hb2)
    | ((with_reducible refine st88 w.heap.size 0 (valL l) (true && !decide (valL l = 0)) ?_ ?_ ?_);(· exact ⟨rfl,_,_,rfl,rfl,rfl⟩);· exact there_keep (there_keep Ht.out HB1.out) HB2.out))

  refine ret88 Tryz.results72 w.heap.size 0 rfl (valL l) (true && !decide (valL l = 0)) (range_set (there_keep (there_keep Ht.out HB1.out) HB2.out) (by rw [sgL_len])) rfl ⟨rfl,?_⟩
  have q1:=HB.out.trans (HB1.out.mono HB.out.size)
  have q2:=q1.trans (HB2.out.mono q1.size)
  exact below_set q2 (by omega) _ _

set_option maxHeartbeats 1000000 in
theorem parse_f (s : ByteArray) (hd : AllDig s.data.toList) (h0 : 0 < s.size) (w : World) (hp : Pow w) :
    Calls Tryz.prog 72 #[.string s] w fun e w'=>e = .returned (.agg (sgL (valL s.data.toList) (false && !decide (valL s.data.toList = 0))).toArray)/\Below w.heap.size w w':=by
  have hg:=hd.2 0 (by simpa using h0)
  have e : s.data.toList[0]'(by simpa using h0) = s[0]'h0:=by simp [ByteArray.getElem_eq_getElem_data]
  rw [e] at hg
  obtain ⟨c,hcc⟩ : ∃ c,(s[0]'h0).toNat = c:=⟨_,rfl⟩
  rw [hcc] at hg
  have hb : ((c : Int) == 45) = false:=by simp;omega
  have Hlt:=Lib.hid hd.lt
  have HP:=Lib.hid (show Pow (w.alloc (.cells (sgL 0 false).toArray 88)) from hp.keep ((Below.refl _ w).alloc (Nat.le_refl _) _));clear hp
  have HB:=Lib.hid (show Below w.heap.size w (w.alloc (.cells (sgL 0 false).toArray 88)) from (Below.refl w.heap.size w).alloc (Nat.le_refl _) _)
  have Ht:=Lib.hid (show (w.alloc (.cells (sgL 0 false).toArray 88)).there w.heap.size 0 31 from there_at rfl _ 88 (by rw [sgL_len]))
  have Ct:=Lib.hid (parseMag_any s hd _ HP.out)
  obtain ⟨m,hm⟩ : ∃ m,valL s.data.toList = m:=⟨_,rfl⟩
  rw [hm] at Hlt Ct ⊢
  clear hd hm hg e
  go_enter Tryz.func72,Tryz.ntmps72
  go_wp2_with (first
    | ((with_reducible refine al_zb 88 _ w.heap.size ?_ ?_ z88 ?_);(· exact ⟨rfl,rfl⟩);· (simp;done))
    | (go_at_call 120;(with_reducible refine (Ct.out).mono ?_);rintro e w1 ⟨rfl,hb1⟩;have HB1:=Lib.hid hb1;clear hb1)
    | (go_at_call 93;(with_reducible refine (number_any m false Hlt.out _).mono ?_);rintro e w2 ⟨rfl,hb2⟩;have HB2:=Lib.hid hb2;clear hb2)
    | ((with_reducible refine st88 w.heap.size 0 m (false && !decide (m = 0)) ?_ ?_ ?_);(· exact ⟨rfl,_,_,rfl,rfl,rfl⟩);· exact there_keep (there_keep Ht.out HB1.out) HB2.out))

  refine ret88 Tryz.results72 w.heap.size 0 rfl m (false && !decide (m = 0)) (range_set (there_keep (there_keep Ht.out HB1.out) HB2.out) (by rw [sgL_len])) rfl ⟨rfl,?_⟩
  have q1:=HB.out.trans (HB1.out.mono HB.out.size)
  have q2:=q1.trans (HB2.out.mono q1.size)
  exact below_set q2 (by omega) _ _
end Go.Proofs.YtpbegoflpfdajaaGreatDoor

/- WHAT IS PROVED: contracts of functions of the numbers package and laws for them, used by the last text of this claim. CONDITIONS: stated at each theorem. -/
import Derived.Test.YtpbegoflpfdajaaGreatDoorB02
import Derived.Test.YtpbegoflpfdajaaGreatDoorB01
import Derived.RangeFuncNested
import Derived.RangeFuncBound
import Derived.RangeFuncCalls
import Derived.RangeFuncLeaves
import Derived.Shelf.Abstract
import Derived.Shelf.RegionOpen
import Derived.WalkKit
import Derived.OwnWalkIn
import Derived.TacticsInMore
import Derived.LoopNIn
import Derived.LoopIn
import Derived.WalkMore
import Derived.WalkSmall
import Derived.Lib.OthersKept
namespace Go.Proofs.YtpbegoflpfdajaaGreatDoor
open Go.RowKit

set_option maxHeartbeats 1000000 in
theorem number_f (n : Nat) (hn : n < bb ^ 30) (w : World) :
    Calls Tryz.prog 93 #[.agg (mgL n).toArray,.bool false] w fun e w'=>e = .returned (.agg (sgL n (false)).toArray)/\Below w.heap.size w w':=by
  have Hn:=Lib.hid hn;clear hn
  have Hr:=Lib.hid (show ((w.alloc (.cells (mgL n).toArray 86)).alloc (.cells (sgL 0 false).toArray 88)).rangeAt w.heap.size 0 (mgL n) from World.rangeAt_alloc (range_new w _ 86) _)
  have Ht:=Lib.hid (show ((w.alloc (.cells (mgL n).toArray 86)).alloc (.cells (sgL 0 false).toArray 88)).there (w.heap.size + 1) 0 31 from there_at (by simp) _ _ (by rw [sgL_len]))
  have Hb:=Lib.hid (show Below w.heap.size w ((w.alloc (.cells (mgL n).toArray 86)).alloc (.cells (sgL 0 false).toArray 88)) from ((Below.refl w.heap.size w).alloc (Nat.le_refl _) _).alloc (by simp) _)
  go_enter Tryz.func93,Tryz.ntmps93
  go_wp2_with (first | ((with_reducible refine al_zb 88 _ (w.heap.size + 1) ?_ ?_ z88 ?_);(· exact ⟨rfl,rfl⟩);· simp))
  refine wp_region_held_drew (S:=(fun w'=>Below w.heap.size w w'/\w'.rangeAt w.heap.size 0 (mgL n)/\w'.there (w.heap.size + 1) 0 31)) (by kernel_rfl) ?_ (fun hH=>?_)
  · exact ⟨Hb.out.drew,Hr.out,Ht.out⟩
  try dsimp only at hH
  refine wpAnyH_take (i:=0) (v:=(.agg (mgL n).toArray)) rfl (by kernel_rfl) (by kernel_rfl) (by kernel_rfl) (fun _ _ _ h=>h) (yld86 w.heap.size 0 n rfl ⟨_,rfl,rfl⟩ (fun wz hz=>hz.2.1)) hH ?_
  try simp only [Act.put,List.getElem_toArray,List.getElem_cons_zero,List.setIfInBounds_toArray,List.set_cons_zero,List.set_cons_succ]
  refine wpAnyH_take (i:=1) (v:=.bool false) rfl (by kernel_rfl) (by kernel_rfl) (by kernel_rfl) (fun _ _ _ h=>h) (Or.inl ⟨by rfl,fun wz hz=>by skip;go_simp⟩) hH ?_
  try simp only [Act.put,List.getElem_toArray,List.getElem_cons_succ,List.getElem_cons_zero,List.setIfInBounds_toArray,List.set_cons_zero,List.set_cons_succ]
  refine wpAnyH_take (i:=2) (v:=.bool false) rfl (by kernel_rfl) (by kernel_rfl) (by kernel_rfl) (fun _ _ _ h=>h) (Or.inl ⟨by rfl,fun wz hz=>by skip;go_simp⟩) hH ?_
  try simp only [Act.put,List.getElem_toArray,List.getElem_cons_succ,List.getElem_cons_zero,List.setIfInBounds_toArray,List.set_cons_zero,List.set_cons_succ]
  refine wpAnyH_take (i:=3) (v:=undef) rfl (by kernel_rfl) (by kernel_rfl) (by kernel_rfl) (fun _ _ _ h=>h) (Or.inr ⟨by rfl,rfl⟩) hH ?_
  try simp only [Act.put,List.getElem_toArray,List.getElem_cons_succ,List.getElem_cons_zero,List.setIfInBounds_toArray,List.set_cons_zero,List.set_cons_succ]
  refine wpAnyH_take (i:=4) (v:=undef) rfl (by kernel_rfl) (by kernel_rfl) (by kernel_rfl) (fun _ _ _ h=>h) (Or.inr ⟨by rfl,rfl⟩) hH ?_
  try simp only [Act.put,List.getElem_toArray,List.getElem_cons_succ,List.getElem_cons_zero,List.setIfInBounds_toArray,List.set_cons_zero,List.set_cons_succ]
  refine wpAnyH_take (i:=5) (v:=undef) rfl (by kernel_rfl) (by kernel_rfl) (by kernel_rfl) (fun _ _ _ h=>h) (Or.inr ⟨by rfl,rfl⟩) hH ?_
  try simp only [Act.put,List.getElem_toArray,List.getElem_cons_succ,List.getElem_cons_zero,List.setIfInBounds_toArray,List.set_cons_zero,List.set_cons_succ]
  refine wpAnyH_take (i:=6) (v:=.bool false) rfl (by kernel_rfl) (by kernel_rfl) (by kernel_rfl) (fun _ _ _ h=>h) (Or.inl ⟨by rfl,fun wz hz=>by skip;go_simp⟩) hH ?_
  try simp only [Act.put,List.getElem_toArray,List.getElem_cons_succ,List.getElem_cons_zero,List.setIfInBounds_toArray,List.set_cons_zero,List.set_cons_succ]
  refine wpAnyH_take (i:=7) (v:=(.agg (sgL n (false)).toArray)) rfl (by kernel_rfl) (by kernel_rfl) (by kernel_rfl) (fun _ _ _ h=>h) (yb88 n false _ _ rfl rfl rfl rfl) hH ?_
  try simp only [Act.put,List.getElem_toArray,List.getElem_cons_succ,List.getElem_cons_zero,List.setIfInBounds_toArray,List.set_cons_zero,List.set_cons_succ]
  refine wpAnyH_ready (rs:=[8]) (by kernel_rfl) (by simp) ?_
  refine AllReadyH.cons rfl (fun K hK=>?_) AllReadyH.nil
  simp only [List.getElem_toArray,List.getElem_cons_succ,List.getElem_cons_zero]
  rw [if_pos (by rfl)]
  with_reducible refine wst88 (w.heap.size + 1) 0 n (false) ?_ hH.2.2 ?_
  · exact ⟨_,_,rfl,rfl,rfl⟩
  refine hK.out _ _ ?_ (fun hH1=>?_)
  · exact ⟨below_set hH.1 (by omega) _ _,range_setk hH.2.1 (by first | trivial | omega),there_setk hH.2.2 (by first | trivial | omega)⟩
  clear hK K
  try simp only [Act.put]
  refine wpAnyH_done (by kernel_rfl) ?_ _
  go_wp2
  refine ret88 Tryz.results93 (w.heap.size + 1) 0 rfl n (false) (range_set hH.2.2 (by rw [sgL_len])) rfl ⟨rfl,hH1.1⟩

set_option maxHeartbeats 1000000 in
theorem number_t (n : Nat) (hn : n < bb ^ 30) (w : World) :
    Calls Tryz.prog 93 #[.agg (mgL n).toArray,.bool true] w fun e w'=>e = .returned (.agg (sgL n (!decide (n = 0))).toArray)/\Below w.heap.size w w':=by
  have Hn:=Lib.hid hn;clear hn
  have Hr:=Lib.hid (show ((w.alloc (.cells (mgL n).toArray 86)).alloc (.cells (sgL 0 false).toArray 88)).rangeAt w.heap.size 0 (mgL n) from World.rangeAt_alloc (range_new w _ 86) _)
  have Ht:=Lib.hid (show ((w.alloc (.cells (mgL n).toArray 86)).alloc (.cells (sgL 0 false).toArray 88)).there (w.heap.size + 1) 0 31 from there_at (by simp) _ _ (by rw [sgL_len]))
  have Hb:=Lib.hid (show Below w.heap.size w ((w.alloc (.cells (mgL n).toArray 86)).alloc (.cells (sgL 0 false).toArray 88)) from ((Below.refl w.heap.size w).alloc (Nat.le_refl _) _).alloc (by simp) _)
  go_enter Tryz.func93,Tryz.ntmps93
  go_wp2_with (first | ((with_reducible refine al_zb 88 _ (w.heap.size + 1) ?_ ?_ z88 ?_);(· exact ⟨rfl,rfl⟩);· simp))
  refine wp_region_held_drew (S:=(fun w'=>Below w.heap.size w w'/\w'.rangeAt w.heap.size 0 (mgL n)/\w'.there (w.heap.size + 1) 0 31)) (by kernel_rfl) ?_ (fun hH=>?_)
  · exact ⟨Hb.out.drew,Hr.out,Ht.out⟩
  try dsimp only at hH
  refine wpAnyH_take (i:=0) (v:=(.agg (mgL n).toArray)) rfl (by kernel_rfl) (by kernel_rfl) (by kernel_rfl) (fun _ _ _ h=>h) (yld86 w.heap.size 0 n rfl ⟨_,rfl,rfl⟩ (fun wz hz=>hz.2.1)) hH ?_
  try simp only [Act.put,List.getElem_toArray,List.getElem_cons_zero,List.setIfInBounds_toArray,List.set_cons_zero,List.set_cons_succ]
  refine wpAnyH_take (i:=1) (v:=.bool true) rfl (by kernel_rfl) (by kernel_rfl) (by kernel_rfl) (fun _ _ _ h=>h) (Or.inl ⟨by rfl,fun wz hz=>by skip;go_simp⟩) hH ?_
  try simp only [Act.put,List.getElem_toArray,List.getElem_cons_succ,List.getElem_cons_zero,List.setIfInBounds_toArray,List.set_cons_zero,List.set_cons_succ]
  refine wpAnyH_take (i:=2) (v:=.bool true) rfl (by kernel_rfl) (by kernel_rfl) (by kernel_rfl) (fun _ _ _ h=>h) (Or.inl ⟨by rfl,fun wz hz=>by skip;go_simp⟩) hH ?_
  try simp only [Act.put,List.getElem_toArray,List.getElem_cons_succ,List.getElem_cons_zero,List.setIfInBounds_toArray,List.set_cons_zero,List.set_cons_succ]
  refine wpAnyH_take (i:=3) (v:=(.agg (mgL n).toArray)) rfl (by kernel_rfl) (by kernel_rfl) (by kernel_rfl) (fun _ _ _ h=>h) (yld86 w.heap.size 0 n rfl ⟨_,rfl,rfl⟩ (fun wz hz=>hz.2.1)) hH ?_
  try simp only [Act.put,List.getElem_toArray,List.getElem_cons_succ,List.getElem_cons_zero,List.setIfInBounds_toArray,List.set_cons_zero,List.set_cons_succ]
  refine wpAnyH_ready (rs:=[4]) (by kernel_rfl) (by simp) ?_
  refine AllReadyH.cons rfl (fun K hK=>?_) AllReadyH.nil
  simp only [List.getElem_toArray,List.getElem_cons_succ,List.getElem_cons_zero]
  rw [if_pos (by rfl)]
  go_simp
  refine (isZero_any n Hn.out _).mono ?_;rintro e w1 ⟨rfl,hb1⟩
  try simp only []
  refine hK.out _ _ ?_ (fun hH1=>?_)
  · exact ⟨(hH.1).trans (hb1.mono (hH.1).size),range_keep hH.2.1 hb1,there_keep hH.2.2 hb1⟩
  clear hK K
  try simp only [Act.put,List.getElem_toArray,List.getElem_cons_succ,List.getElem_cons_zero,List.setIfInBounds_toArray,List.set_cons_zero,List.set_cons_succ]
  refine wpAnyH_take (i:=5) (v:=(.bool (!decide (n = 0)))) rfl (by kernel_rfl) (by kernel_rfl) (by kernel_rfl) (fun _ _ _ h=>h) (Or.inl ⟨by rfl,fun wz hz=>by skip;go_simp⟩) hH1 ?_
  try simp only [Act.put,List.getElem_toArray,List.getElem_cons_succ,List.getElem_cons_zero,List.setIfInBounds_toArray,List.set_cons_zero,List.set_cons_succ]
  refine wpAnyH_take (i:=6) (v:=(.bool (!decide (n = 0)))) rfl (by kernel_rfl) (by kernel_rfl) (by kernel_rfl) (fun _ _ _ h=>h) (Or.inl ⟨by rfl,fun wz hz=>by skip;go_simp⟩) hH1 ?_
  try simp only [Act.put,List.getElem_toArray,List.getElem_cons_succ,List.getElem_cons_zero,List.setIfInBounds_toArray,List.set_cons_zero,List.set_cons_succ]
  refine wpAnyH_take (i:=7) (v:=(.agg (sgL n (!decide (n = 0))).toArray)) rfl (by kernel_rfl) (by kernel_rfl) (by kernel_rfl) (fun _ _ _ h=>h) (yb88 n (!decide (n = 0)) _ _ rfl rfl rfl rfl) hH1 ?_
  try simp only [Act.put,List.getElem_toArray,List.getElem_cons_succ,List.getElem_cons_zero,List.setIfInBounds_toArray,List.set_cons_zero,List.set_cons_succ]
  refine wpAnyH_ready (rs:=[8]) (by kernel_rfl) (by simp) ?_
  refine AllReadyH.cons rfl (fun K hK=>?_) AllReadyH.nil
  simp only [List.getElem_toArray,List.getElem_cons_succ,List.getElem_cons_zero]
  rw [if_pos (by rfl)]
  with_reducible refine wst88 (w.heap.size + 1) 0 n (!decide (n = 0)) ?_ hH1.2.2 ?_
  · exact ⟨_,_,rfl,rfl,rfl⟩
  refine hK.out _ _ ?_ (fun hH2=>?_)
  · exact ⟨below_set hH1.1 (by omega) _ _,range_setk hH1.2.1 (by first | trivial | omega),there_setk hH1.2.2 (by first | trivial | omega)⟩
  clear hK K
  try simp only [Act.put]
  refine wpAnyH_done (by kernel_rfl) ?_ _
  go_wp2
  refine ret88 Tryz.results93 (w.heap.size + 1) 0 rfl n (!decide (n = 0)) (range_set hH1.2.2 (by rw [sgL_len])) rfl ⟨rfl,hH2.1⟩
end Go.Proofs.YtpbegoflpfdajaaGreatDoor

/- Plain arithmetic: decimal digits and limbs. -/
namespace Go.Proofs.YtpbegoflpfdajaaGreatDoor

theorem bb_ten : bb = 10 ^ 9:=rfl
theorem ten_pow (p : Nat) : 10 ^ p = bb ^ (p / 9) * 10 ^ (p % 9):=by
  rw [bb_ten,<- Nat.pow_mul,<- Nat.pow_add,Nat.div_add_mod]
theorem lim_digit (v d p j : Nat) (hd : d < 10) :
    lim (v * 10 ^ (p + 1) + d * 10 ^ p) j = if j = p / 9 then lim (v * 10 ^ (p + 1)) j + d * 10 ^ (p % 9) else lim (v * 10 ^ (p + 1)) j:=by
  obtain ⟨q,hq⟩ : ∃ q,p / 9 = q:=⟨_,rfl⟩
  obtain ⟨r,hr⟩ : ∃ r,p % 9 = r:=⟨_,rfl⟩
  have hr9 : r < 9:=by omega
  have e0 : 10 ^ p = bb ^ q * 10 ^ r:=by rw [ten_pow,hq,hr]
  obtain ⟨c,hc⟩ : ∃ c,8 - r = c:=⟨_,rfl⟩
  have eB : bb = 10 ^ (r + 1) * 10 ^ c:=by rw [bb_ten,<- Nat.pow_add];congr 1;omega
  have ed : d * 10 ^ r < 10 ^ (r + 1):=by rw [Nat.pow_succ,Nat.mul_comm];exact Nat.mul_lt_mul_of_pos_left hd (Nat.pow_pos (by omega))
  have e1 : v * 10 ^ (p + 1) = bb ^ q * (10 ^ (r + 1) * v):=by
    rw [Nat.pow_succ,e0,Nat.pow_succ];simp only [Nat.mul_comm,Nat.mul_left_comm]
  have e2 : v * 10 ^ (p + 1) + d * 10 ^ p = bb ^ q * (10 ^ (r + 1) * v + d * 10 ^ r):=by
    rw [e1,e0,Nat.mul_add];congr 1;simp only [Nat.mul_left_comm]
  rw [e2,e1,hq,hr]
  unfold lim
  by_cases h1 : j = q
  · subst h1
    rw [if_pos rfl,Nat.mul_div_cancel_left _ (bb_pow_pos _),Nat.mul_div_cancel_left _ (bb_pow_pos _),eB,Nat.mod_mul,Nat.mod_mul,Nat.mul_add_mod,Nat.mod_eq_of_lt ed,Nat.mul_mod_right,
      Nat.mul_add_div (Nat.pow_pos (by omega)),Nat.div_eq_of_lt ed,Nat.mul_div_cancel_left _ (Nat.pow_pos (by omega))]
    simp only [Nat.add_zero]
    omega
  · rw [if_neg h1]
    by_cases h2 : j < q
    · obtain ⟨t,ht⟩ : ∃ t,q = j + 1 + t:=⟨q - (j + 1),by omega⟩
      have : ∀ x,bb ^ q * x / bb ^ j % bb = 0:=by
        intro x
        rw [ht,Nat.pow_add,Nat.pow_succ,Nat.mul_assoc,Nat.mul_assoc,Nat.mul_div_cancel_left _ (bb_pow_pos _),Nat.mul_mod_right]
      rw [this,this]
    · obtain ⟨t,ht⟩ : ∃ t,j = q + (t + 1):=⟨j - q - 1,by omega⟩
      have hB : bb ^ (t + 1) = 10 ^ (r + 1) * (10 ^ c * bb ^ t) := by rw [Nat.pow_succ, Nat.mul_comm]; conv => lhs; rw [show bb * bb ^ t = (10 ^ (r + 1) * 10 ^ c) * bb ^ t by rw [<- eB]]
                                                                      rw [Nat.mul_assoc]
      have : ∀ x,bb ^ q * x / bb ^ j = x / bb ^ (t + 1):=by
        intro x;rw [ht,Nat.pow_add,<- Nat.div_div_eq_div_mul,Nat.mul_div_cancel_left _ (bb_pow_pos _)]
      have k1 : (10 ^ (r + 1) * v + d * 10 ^ r) / (10 ^ (r + 1) * (10 ^ c * bb ^ t)) = v / (10 ^ c * bb ^ t):=by
        rw [<- Nat.div_div_eq_div_mul,Nat.mul_add_div (Nat.pow_pos (by omega)),Nat.div_eq_of_lt ed,Nat.add_zero]
      have k2 : 10 ^ (r + 1) * v / (10 ^ (r + 1) * (10 ^ c * bb ^ t)) = v / (10 ^ c * bb ^ t):=by
        rw [<- Nat.div_div_eq_div_mul,Nat.mul_div_cancel_left _ (Nat.pow_pos (by omega))]
      rw [this,this,hB,k1,k2]

def valL (l : List UInt8) : Nat:=l.foldl (fun v c=>v * 10 + (c.toNat - 48)) 0
theorem valL_snoc (l : List UInt8) (c : UInt8) : valL (l ++ [c]) = valL l * 10 + (c.toNat - 48):=by simp [valL]
def isDig (c : UInt8) : Bool:=decide (48 <= c.toNat/\c.toNat <= 57)
theorem valL_take_lt (l : List UInt8) (h : ∀ c ∈ l,isDig c = true) : ∀ k,k <= l.length->valL (l.take k) < 10 ^ k
  | 0,_=>by simp [valL]
  | k + 1,hk=>by
    have h1:=valL_take_lt l h k (by omega)
    have hc:=h l[k] (List.getElem_mem _)
    simp only [isDig,decide_eq_true_eq] at hc
    rw [List.take_succ_eq_append_getElem (by omega),valL_snoc,Nat.pow_succ]
    omega
theorem valL_lt (l : List UInt8) (h : ∀ c ∈ l,isDig c = true) : valL l < 10 ^ l.length:=by
  have:=valL_take_lt l h l.length (Nat.le_refl _)
  rwa [List.take_length] at this
def preV (l : List UInt8) (k : Nat) : Nat:=valL (l.take k) * 10 ^ (l.length - k)
theorem preV_zero (l : List UInt8) : preV l 0 = 0:=by simp [preV,valL]
theorem preV_all (l : List UInt8) : preV l l.length = valL l:=by simp [preV]
theorem preV_succ (l : List UInt8) (k : Nat) (h : k < l.length) : preV l (k + 1) = preV l k + (l[k].toNat - 48) * 10 ^ (l.length - 1 - k)/\preV l k = valL (l.take k) * 10 ^ (l.length - 1 - k + 1):=by
  have e : l.length - k = l.length - 1 - k + 1:=by omega
  unfold preV
  refine ⟨?_,by rw [e]⟩
  rw [List.take_succ_eq_append_getElem h,valL_snoc,e,show l.length - (k + 1) = l.length - 1 - k by omega,Nat.pow_succ,Nat.add_mul]
  congr 1
  rw [Nat.mul_assoc,Nat.mul_comm 10]
theorem lim_preV (l : List UInt8) (k : Nat) (h : k < l.length) (hd : isDig l[k] = true) (j : Nat) :
    lim (preV l (k + 1)) j = if j = (l.length - 1 - k) / 9 then lim (preV l k) j + (l[k].toNat - 48) * 10 ^ ((l.length - 1 - k) % 9) else lim (preV l k) j:=by
  obtain ⟨e1,e2⟩:=preV_succ l k h
  rw [e1,e2]
  simp only [isDig,decide_eq_true_eq] at hd
  exact lim_digit _ _ _ _ (by omega)
end Go.Proofs.YtpbegoflpfdajaaGreatDoor

namespace Go.Proofs.YtpbegoflpfdajaaGreatDoor
open Go.RowKit Go.Shelf
attribute [local go_sem] Oper.semAt_some
theorem heap_alloc_lt {w : World} {o : Obj} {k : Nat} (h : k < w.heap.size) : (w.alloc o).heap[k]? = w.heap[k]?:=by
  show (w.heap.push o)[k]? = _
  rw [Array.getElem?_push];simp [Nat.ne_of_lt h]
theorem heap_alloc_at (w : World) (o : Obj) : (w.alloc o).heap[w.heap.size]? = some o:=by
  show (w.heap.push o)[w.heap.size]? = _
  simp
abbrev Dg:={ x : Nat × Nat // x.1 < 270/\x.2 < 10 }
def encD (x : Dg) : Array Value:=#[.int .i64 x.1.1,.int .u32 x.1.2]
def AllDig (l : List UInt8) : Prop:=l.length <= 270/\∀ i (h : i < l.length),48 <= (l[i]'h).toNat/\(l[i]'h).toNat <= 57
def digs (l : List UInt8) (h : AllDig l) : List Dg:=List.ofFn fun i : Fin l.length=>⟨(l.length - 1 - i,(l[i]).toNat - 48),by have:=h.2 i i.2;have:=h.1;have:=i.2;exact ⟨by simp only;omega,by simp only [Fin.getElem_fin];omega⟩⟩
theorem digs_len (l : List UInt8) (h : AllDig l) : (digs l h).length = l.length:=by simp [digs]
theorem digs_get (l : List UInt8) (h : AllDig l) (k : Nat) (hk : k < l.length) : ((digs l h)[k]'(by rw [digs_len];exact hk)).1 = (l.length - 1 - k,l[k].toNat - 48):=by
  simp only [digs,List.getElem_ofFn];rfl
theorem digs_succ (l : List UInt8) (h : AllDig l) (k : Nat) (hk : k < l.length) : (digs l h).take (k + 1) = (digs l h).take k ++ [(digs l h)[k]'(by rw [digs_len];exact hk)] :=
  List.take_succ_eq_append_getElem (by rw [digs_len];exact hk)

def KeptD (bs : Nat) (A B : World) : Prop:=KeepsWalks A B/\B.heap[bs]? = A.heap[bs]?
theorem KeptD.trans {bs : Nat} {A B C : World} (h : KeptD bs A B) (k : KeptD bs B C) : KeptD bs A C:=⟨h.1.trans k.1,k.2.trans h.2⟩
theorem grown_iterAt (w : World) (k : Nat) (s : ByteArray) (pos : Nat) : w.grownBy (w.iterAt k s pos) (some k) :=
  ⟨rfl,rfl,rfl,by rw [Lib.iterAt_size];exact Nat.le_refl _,fun j _ hj=>Lib.iterAt_other w k j s pos (fun e=>hj (by rw [e]))⟩

set_option maxRecDepth 100000 in
set_option maxHeartbeats 1000000 in
theorem digits1_in (n : Nat) (hn : 1 <= n) (s : ByteArray) (hd : AllDig s.data.toList) (bs l : Nat) (J Jx : List Dg->World->Prop) (W : World)
    (hJ : AbidesFrom W.heap.size J)
    (hY : ∀ pre x W1,J pre W1->pre.length < (digs _ hd).length->YieldAt Fence.wide (n - 1) Tryz.prog l (encD x) W1 fun e W' =>
      (e = .returned (.bool true)/\J (pre ++ [x]) W'/\KeptD bs W1 W') ∨ (e = .returned (.bool false)/\Jx (pre ++ [x]) W'))
    (hc : W.cell? ⟨bs,0,none⟩ = some (.string s)) (h0 : J [] W) :
    CallsIn Fence.wide n Tryz.prog 201 #[.func (.yield l) #[] #[],.pointer (some ⟨bs,0,none⟩)] W fun e W'=>(∃ v,e = .returned v) /\
      ((∃ xs,xs = digs _ hd/\J xs W') ∨ (∃ pre,pre <+: digs _ hd/\Jx pre W')):=by
  have hbs : bs < W.heap.size:=World.block_lt_of_cell? _ _ hc
  have hsz : s.data.toList.length = s.size:=by simp
  have hle:=hd.1
  rw [hsz] at hle
  refine callsIn_of_wp Tryz.func201 rfl trivial ?_ rfl
  simp only [Tryz.ntmps201,List.size_toArray,List.length_cons,List.length_nil,Nat.reduceAdd,Nat.reduceSub,Array.replicate_succ,Array.replicate_zero,List.push_toArray,List.append_toArray,List.nil_append,List.cons_append]
  gi_wp2
  gi_loopw [3] (fun _ wr=>∃ pos : Nat,pos <= s.size/\wr.heap[W.heap.size]? = some (.stringIter s pos)/\wr.heap[bs]? = W.heap[bs]?/\J ((digs _ hd).take pos) wr)
    (fun _ wr=>s.size - wr.iterPos W.heap.size)
  case atStart =>
    exact ⟨0,by omega,heap_alloc_at _ _,heap_alloc_lt hbs,hJ _ _ _ none (by simpa using h0) (World.grownBy_alloc _ _ none) (fun _ e=>by cases e)⟩
  case round =>
    obtain ⟨pos,hp,hit,hb,hJs⟩:=hrel
    have hmu : wr.iterPos W.heap.size = pos:=iterPos_of hit
    have hcr : wr.cell? ⟨bs,0,none⟩ = some (.string s):=(World.cell?_of_block hb).trans hc
    by_cases h : pos < s.size
    · have hk : pos < s.data.toList.length:=by omega
      have hg:=hd.2 pos hk
      have hge : s.data.toList[pos] = s[pos]'h:=by simp;rfl
      have hdg:=digs_get _ hd pos hk
      have hsu:=digs_succ _ hd pos hk
      obtain ⟨x,hx⟩ : ∃ x,(digs s.data.toList hd)[pos]'(by rw [digs_len];exact hk) = x:=⟨_,rfl⟩
      rw [hx] at hdg hsu
      rw [hge] at hg hdg
      obtain ⟨c,hcc⟩ : ∃ c,(s[pos]'h).toNat = c:=⟨_,rfl⟩
      rw [hcc] at hg hdg
      have hnx : ∀ ty,(Instr.next (.pointer (some ⟨W.heap.size,0,none⟩)) true ty).run Tryz.prog wr = .ok (.tuple #[.bool true,.int .i64 pos,.int .i32 c]) (wr.iterAt W.heap.size s (pos + 1)):=by
        intro ty;rw [<- hcc];exact Lib.run_next_ascii_at wr _ s pos ty hit h (by omega)
      have hgr:=grown_iterAt wr W.heap.size s (pos + 1)
      have hJ2:=hJ _ _ _ _ hJs hgr (fun r e=>by cases e;exact ⟨Nat.le_refl _,_,hit,rfl⟩)
      have hit2:=Lib.iterAt_heap wr W.heap.size s pos (pos + 1) hit
      have hb2 : (wr.iterAt W.heap.size s (pos + 1)).heap[bs]? = W.heap[bs]?:=(Lib.iterAt_other _ _ _ _ _ (by omega)).trans hb
      have hc2 : (wr.iterAt W.heap.size s (pos + 1)).cell? ⟨bs,0,none⟩ = some (.string s):=(World.cell?_of_block hb2).trans hc
      obtain ⟨W2,hW2⟩ : ∃ W2,wr.iterAt W.heap.size s (pos + 1) = W2:=⟨_,rfl⟩
      rw [hW2] at hnx hJ2 hit2 hb2 hc2
      have hnx2:=hnx
      obtain ⟨fn,tmps,assign,body,hy,hR⟩:=hY _ x _ hJ2 (by rw [digs_len,List.length_take,digs_len];omega)
      have e1 : (s.size : Int) - 1 - (pos : Int) = (x.1.1 : Int):=by rw [hdg];simp only [hsz];omega
      have e2 : (c : Int) - 48 = (x.1.2 : Int):=by rw [hdg];simp only;omega
      simp only [encD] at hy
      rw [<- e1,<- e2] at hy
      have Hsu:=Lib.hid hsu
      clear hsu hge hx hgr hJs e1 e2 hdg
      gi_wp2
      refine hR.mono ?_
      rintro e W3 (⟨rfl,hJ3,hk3⟩ | ⟨rfl,hJx3⟩)
      · gi_wp2
        go_roundw
        case rel=>exact ⟨pos + 1,by omega,hk3.1.same _ _ hit2 rfl,hk3.2.trans hb2,by rw [Hsu.out];exact hJ3⟩
        case measure=>rw [hmu,iterPos_of (hk3.1.same _ _ hit2 rfl)];omega
      · gi_wp2
        refine bodyPost_ret (results_none rfl _ _ _) rfl ?_
        exact ⟨⟨_,rfl⟩,.inr ⟨_,by rw [<- Hsu.out];exact List.take_prefix _ _,hJx3⟩⟩
    · have hnx : ∀ ty,(Instr.next (.pointer (some ⟨W.heap.size,0,none⟩)) true ty).run Tryz.prog wr = .ok (.tuple #[.bool false]) wr:=fun ty=>Lib.run_next_end_at wr _ s pos ty hit h
      gi_wp2
      go_end0
      exact ⟨⟨_,rfl⟩,.inl ⟨_,by rw [List.take_of_length_le (by rw [digs_len];omega)],hJs⟩⟩
end Go.Proofs.YtpbegoflpfdajaaGreatDoor

namespace Go.Proofs.YtpbegoflpfdajaaGreatDoor
open Go.RowKit Go.Shelf
attribute [local go_sem] Oper.semAt_some
theorem rowsIn_wide {n : Nat} {P : Program} {row : String} {args : Array Value} {w : World} {R : Value->World->Prop} (h : Rows P row args w R) : RowsIn Fence.wide n P row args w R :=
  fun c cs _=>let ⟨v,w',r,s⟩:=h c cs;⟨v,w',r,stepsIn_wide.2 s⟩
theorem wpIn_of_wp {n : Nat} {P : Program} {op : Oper} {a : Act} {w : World} {K : Act->World->Prop} {Q : Exit->Act->World->Prop} (h : op.wp P a w K Q) : op.wpIn Fence.wide n P a w K Q:=by
  refine ⟨fun _ _=>trivial,?_⟩
  unfold Oper.wp at h
  show op.uponIn Fence.wide n P a K Q ((Oper.semAt none a.eval op).run P w)
  rw [Oper.semAt_none]
  generalize (execOp a.eval op).run P w = r at h ⊢
  rcases r with ⟨x,w'⟩ | ⟨x,w'⟩
  · cases x
    case enter f args=>exact ⟨fun h=>by simp [Fence.wide] at h,callsIn_wide.2 h⟩
    case row row args=>exact ⟨fun h=>by simp [Fence.wide] at h,rowsIn_wide h⟩
    all_goals first | exact h | exact h.elim
  · cases x <;> exact h
section
variable {n : Nat} {ops : Array Oper} {rest : List Oper} {op : Oper} {a : Act} {w : World} {Q : Exit->Act->World->Prop}
theorem alI (t : TypeId) (z : Array Value) (b : Nat) (ho : op.guard = none/\op.op = .alloc t) (hb : b = w.heap.size) (hz : ∀ w,(zeroValue t).run Tryz.prog w = .ok (.agg z) w)
    (h : wpListIn Fence.wide n Tryz.prog ops Q rest (a.put op.dst (.pointer (some ⟨b,0,none⟩))) (w.alloc (.cells z t))) : wpListIn Fence.wide n Tryz.prog ops Q (op :: rest) a w:=by
  subst hb
  refine wpListIn_plain ho.1 fun K hK=>wpIn_of_wp ?_
  unfold Oper.wp execOp
  simp only [ho.2]
  go_simp
  exact hK _ _ h
theorem ld86I (b o : Nat) (m : Nat) (ho : op.guard = none/\∃ x,op.op = .load 86 x/\a.eval x = .pointer (some ⟨b,o,none⟩)) (hc : w.rangeAt b o (mgL m))
    (h : wpListIn Fence.wide n Tryz.prog ops Q rest (a.put op.dst (.agg (mgL m).toArray)) w) : wpListIn Fence.wide n Tryz.prog ops Q (op :: rest) a w :=
  let ⟨hg,x,h1,h2⟩:=ho
  wpListIn_plain hg fun K hK=>wpIn_of_wp (wp_load_mid 86 x h1 b o h2 (mgL m) _ hc Tryz.underlying86 rfl (by rw [mgL_len];exact i86) (hK _ _ h))
theorem st86I (b o : Nat) (m : Nat) (ho : op.guard = none/\∃ x y,op.op = .store 86 x y/\a.eval x = .pointer (some ⟨b,o,none⟩)/\a.eval y = .agg (mgL m).toArray)
    (ht : w.there b o 30) (h : wpListIn Fence.wide n Tryz.prog ops Q rest (a.put op.dst undef) (w.setCells b o (mgL m))) : wpListIn Fence.wide n Tryz.prog ops Q (op :: rest) a w :=
  wpListIn_plain ho.1 fun _K hK=>wpIn_of_wp (wst86 b o m ho.2 ht (hK _ _ h))
end

theorem digits_stops (n : Nat) (hn : 1 <= n) (s : ByteArray) (hd : AllDig s.data.toList) (bs : Nat) (w : World) (hc : w.cell? ⟨bs,0,none⟩ = some (.string s)) :
    SeqStopsK Fence.wide n Tryz.prog 201 #[.pointer (some ⟨bs,0,none⟩)] encD (KeptD bs) (fun xs=>xs = digs _ hd) (fun pre=>pre <+: digs _ hd) (digs _ hd).length w :=
  fun l J Jx W hW hJ _ hY h0=>digits1_in n hn s hd bs l J Jx W hJ hY ((World.cell?_of_block (hW.block bs (World.block_lt_of_cell? _ _ hc))).trans hc) h0

theorem digitsOf_any (s : ByteArray) (w : World) : Calls Tryz.prog 167 #[.string s] w fun e w'=>e = .returned (.func (.func 201) #[] #[.pointer (some ⟨w.heap.size,0,none⟩)])/\w' = w.alloc (.cells #[.string s] 9):=by
  go_enter Tryz.func167,Tryz.ntmps167
  go_wp2
  go_ret
  exact ⟨rfl,rfl⟩

def stepA (A : List Nat) (x : Dg) : List Nat:=A.set (x.1.1 / 9) ((A.getD (x.1.1 / 9) 0 + x.1.2 * 10 ^ (x.1.1 % 9)) % 4294967296)
def foldA (pre : List Dg) : List Nat:=pre.foldl stepA (List.replicate 30 0)
theorem foldA_snoc (pre : List Dg) (x : Dg) : foldA (pre ++ [x]) = stepA (foldA pre) x:=by simp [foldA]
theorem foldA_len (pre : List Dg) : (foldA pre).length = 30:=by
  suffices h : ∀ (l : List Dg) A,(l.foldl stepA A).length = A.length by simp [foldA,h]
  intro l
  induction l with
  | nil=>intro A;rfl
  | cons x l ih=>intro A;rw [List.foldl_cons,ih];simp [stepA]
theorem rep0 (n i : Nat) : (List.replicate n 0).getD i 0 = 0:=by
  rw [List.getD_eq_getElem?_getD,List.getElem?_replicate];split <;> rfl
theorem foldA_lt (pre : List Dg) : ∀ i,(foldA pre).getD i 0 < 4294967296:=by
  suffices h : ∀ (l : List Dg) (A : List Nat),(∀ i,A.getD i 0 < 4294967296)->∀ i,(l.foldl stepA A).getD i 0 < 4294967296 from h pre _ (by intro i;rw [rep0];omega)
  intro l
  induction l with
  | nil=>exact fun A h=>h
  | cons x l ih =>
    intro A h
    refine ih _ ?_
    intro i
    unfold stepA
    rw [List.getD_eq_getElem?_getD,List.getElem?_set]
    split
    · split
      · simp only [Option.getD_some];omega
      · simp
    · rw [<- List.getD_eq_getElem?_getD];exact h i
def encA (A : List Nat) : List Value:=A.map fun (x : Nat)=>.int .u32 (x : Int)
theorem foldA_digs (l : List UInt8) (h : AllDig l) : ∀ k,k <= l.length->∀ i,i < 30->(foldA ((digs l h).take k)).getD i 0 = lim (preV l k) i
  | 0,_,i,hi=>by
    rw [preV_zero,lim_zero]
    show (List.replicate 30 0).getD i 0 = 0
    exact rep0 _ _
  | k + 1,hk,i,hi=>by
    have ih:=foldA_digs l h k (by omega)
    have hg:=h.2 k (by omega)
    rw [digs_succ l h k (by omega),foldA_snoc,lim_preV l k (by omega) (by simp only [isDig,decide_eq_true_eq];exact hg)]
    unfold stepA
    rw [digs_get l h k (by omega)]
    simp only
    rw [List.getD_eq_getElem?_getD,List.getElem?_set]
    have h270:=h.1
    have hq : (l.length - 1 - k) / 9 < 30:=by omega
    by_cases e : i = (l.length - 1 - k) / 9
    · subst e
      rw [if_pos rfl,if_pos rfl,if_pos (by rw [foldA_len];exact hq),Option.getD_some,ih _ hq]
      refine Nat.mod_eq_of_lt ?_
      have:=lim_preV l k (by omega) (by simp only [isDig,decide_eq_true_eq];exact hg) ((l.length - 1 - k) / 9)
      rw [if_pos rfl] at this
      rw [<- this]
      have:=lim_lt (preV l (k + 1)) ((l.length - 1 - k) / 9)
      unfold bb at this;omega
    · rw [if_neg (Ne.symm e),if_neg e,<- List.getD_eq_getElem?_getD,ih i hi]
theorem enc_all (l : List UInt8) (h : AllDig l) : encA (foldA (digs l h)) = mgL (valL l):=by
  have hd:=foldA_digs l h l.length (Nat.le_refl _)
  rw [List.take_of_length_le (by rw [digs_len];exact Nat.le_refl _),preV_all] at hd
  refine List.ext_getElem (by rw [mgL_len];simp [encA,foldA_len]) fun i h1 h2=>?_
  have hi : i < 30:=by rw [mgL_len] at h2;exact h2
  have e2:=mgL_get (n:=valL l) hi
  rw [List.getElem?_eq_getElem h2] at e2
  have e3:=hd i hi
  rw [List.getD_eq_getElem?_getD,List.getElem?_eq_getElem (by rw [foldA_len];exact hi),Option.getD_some] at e3
  rw [Option.some.inj e2,<- e3]
  simp [encA]
end Go.Proofs.YtpbegoflpfdajaaGreatDoor

namespace Go.Proofs.YtpbegoflpfdajaaGreatDoor
open Go.RowKit Go.Shelf

theorem wpIn_round_of_wp {n l : Nat} {P : Program} {op : Oper} (hd : ∀ c,op.op ≠ .defer c) {a : Act} {w : World} {K : Act->World->Prop} {Q : Exit->Act->World->Prop} (h : op.wp P a w K Q) : op.wpIn (Fence.wide.inRound l) n P a w K Q:=by
  refine ⟨fun _ _=>trivial,?_⟩
  unfold Oper.wp at h
  rw [Oper.semAt_eq _ _ _ hd]
  generalize (execOp a.eval op).run P w = r at h ⊢
  rcases r with ⟨x,w'⟩ | ⟨x,w'⟩
  · cases x
    case enter f args=>exact ⟨fun h=>by simp [Fence.wide] at h,CallsIn.inRound l (callsIn_wide.2 h)⟩
    case row row args=>exact ⟨fun h=>by simp [Fence.wide] at h,rowsIn_wide (n:=n - 1) h⟩
    all_goals first | exact h | exact h.elim
  · cases x <;> exact h
theorem any_round {n l : Nat} {P : Program} {md : Region.Mode} {ops : Array Oper} {Q : Exit->Act->World->Prop} (hd : ∀ (i : Nat) o,ops[i]? = some o->∀ c,o.op ≠ .defer c) (hQ : ¬ LetsOut Q) :
    ∀ (fuel : Nat) (listed : Array Bool) (a : Act) (w : World),wpAny P md ops Q fuel listed a w->wpAnyIn (Fence.wide.inRound l) n P md ops Q fuel listed a w:=by
  intro fuel
  induction fuel with
  | zero=>exact fun _ _ _ h=>h
  | succ fuel ih =>
    intro listed a w h
    refine ⟨h.1,fun i hi=>wpOpIn_mono (ih _) ?_⟩
    have h2:=h.2 i hi
    unfold wpOp at h2
    unfold wpOpIn
    cases ho : ops[i]? with
    | none=>rw [ho] at h2;exact h2
    | some o =>
      rw [ho] at h2
      simp only at h2 ⊢
      split
      · rename_i hw
        rw [if_pos hw] at h2
        rcases h2 with h2 | h2
        · exact wpIn_round_of_wp (hd i o ho) h2
        · exact absurd h2.2 hQ
      · rename_i hw
        rw [if_neg hw] at h2
        exact ⟨fun _ _=>trivial,h2⟩
theorem region_round {n l : Nat} {P : Program} {id : Nat} {ops : Array Oper} {Q : Exit->Act->World->Prop} {a : Act} {w : World} (hm : P.follows .mixedOrders = true) (hd : ∀ (i : Nat) o,ops[i]? = some o->∀ c,o.op ≠ .defer c) (hQ : ¬ LetsOut Q)
    (h : wpAny P .any ops Q ops.size (Array.replicate ops.size false) a w.drew) : (Code.region id ops true).wpIn (Fence.wide.inRound l) n P Q a w :=
  wpIn_region_any hm (any_round hd hQ _ _ _ _ h)
def noDefer (o : Oper) : Bool:=match o.op with | .defer _=>false | _=>true
theorem noDefer_spec {ops : Array Oper} (h : ops.toList.all noDefer = true) : ∀ (i : Nat) o,ops[i]? = some o->∀ c,o.op ≠ .defer c:=by
  intro i o ho c hc
  have:=List.all_eq_true.1 h o (by rw [<- Array.getElem?_toList] at ho;exact List.mem_of_getElem? ho)
  simp [noDefer,hc] at this
end Go.Proofs.YtpbegoflpfdajaaGreatDoor

/- WHAT IS PROVED: contracts of functions of the numbers package and laws for them, used by the last text of this claim. CONDITIONS: stated at each theorem. -/
import Derived.Test.YtpbegoflpfdajaaGreatDoorB05
import Derived.Test.YtpbegoflpfdajaaGreatDoorB08
import Derived.Test.YtpbegoflpfdajaaGreatDoorB09
import Derived.Lib.ItoaNum
import Derived.Lib.ItoaMem
import Derived.Test.YtpbegoflpfdajaaGreatDoorB03
import Derived.Lib.AppendIntMem
import Derived.RangeFuncBox
import Derived.Laws.AppendOwn
import Derived.Lib.AppendStr
import Derived.Lib.UnsafeStr
import Derived.LoopTactic
import Derived.Laws.IdiomStrings
namespace Go.Proofs.YtpbegoflpfdajaaGreatDoor
open Go.RowKit

def noMinus (l : List UInt8) : List UInt8:=Lib.trimPrefix l [45]
def ckL (l : List UInt8) : Int :=
  if areDig (noMinus l) = false then 1 else if (noMinus l).head? = some 48/\l ≠ [48] then 1 else if 120 < (noMinus l).length then 4 else 0

set_option maxHeartbeats 1000000 in
theorem check_any (s : ByteArray) (w : World) : Calls Tryz.prog 12 #[.string s] w fun e w'=>e = .returned (.int .i64 (ckL s.data.toList))/\Below w.heap.size w w':=by
  have ct:=Tryz.strings_TrimPrefix s ⟨#[45]⟩ w
  have ca:=areDigits_any ⟨(noMinus s.data.toList).toArray⟩ w
  change Calls Tryz.prog 60 #[.string s,.string ⟨#[45]⟩] w fun e w'=>e = .returned (.string ⟨(noMinus s.data.toList).toArray⟩)/\w' = w at ct
  change Calls Tryz.prog 63 _ w fun e w'=>e = .returned (.bool (areDig (noMinus s.data.toList)))/\_ at ca
  obtain ⟨D,hD⟩ : ∃ D,noMinus s.data.toList = D:=⟨_,rfl⟩
  have hck : ckL s.data.toList = if areDig D = false then 1 else if D.head? = some 48/\s.data.toList ≠ [48] then 1 else if 120 < D.length then 4 else 0:=by unfold ckL;rw [hD]
  rw [hD] at ct ca
  have Hck:=Lib.hid hck
  have Ct:=Lib.hid ct
  clear hck ct hD
  by_cases ha : areDig D = true
  · rw [ha] at ca
    have Ca:=Lib.hid ca;clear ca
    obtain ⟨c0,Dt,rfl⟩ : ∃ c0 Dt,D = c0 :: Dt:=by
      cases D with
      | nil=>simp [areDig] at ha
      | cons c0 Dt=>exact ⟨c0,Dt,rfl⟩
    rw [if_neg (by rw [ha];decide)] at Hck
    obtain ⟨T,hT⟩ : ∃ T : ByteArray,T = ⟨(c0 :: Dt).toArray⟩:=⟨_,rfl⟩
    rw [<- hT] at Ct Ca
    have h0 : 0 < T.size:=by rw [hT];simp [ByteArray.size]
    have hlen : T.size = (c0 :: Dt).length:=by rw [hT];simp [ByteArray.size]
    have hg : T[0]'h0 = c0:=by subst hT;simp [ByteArray.getElem_eq_getElem_data]
    obtain ⟨n,hn⟩ : ∃ n,T.size = n:=⟨_,rfl⟩
    have hgn : (T[0]'h0).toNat = c0.toNat:=by rw [hg]
    rw [<- hlen,hn] at Hck
    have e48 : (some c0 = some 48) = (c0.toNat = 48):=by
      simp only [Option.some.injEq,eq_iff_iff];exact ⟨fun h=>by rw [h];rfl,fun h=>UInt8.toNat_inj.1 h⟩
    simp only [List.head?_cons,e48] at Hck
    obtain ⟨c,hc⟩ : ∃ c,c0.toNat = c:=⟨_,rfl⟩
    rw [hc] at Hck hgn
    clear hlen hT hg ha e48 hc
    by_cases h48 : c = 48
    · have d1 : ((c : Int) == 48) = true:=by simp;omega
      by_cases hz : s.data.toList = [48]
      · have z1 : (s.toList != [48]) = false:=by rw [toList_data',hz];rfl
        have z2 : (s.toList == [48]) = true:=by rw [toList_data',hz];rfl
        have hck:=Hck.out
        rw [if_neg (fun h=>h.2 hz)] at hck
        clear hz
        have Hck:=Lib.hid hck;clear hck
        by_cases h120 : 120 < n
        · have d2 : decide ((120 : Int) < (n : Int)) = true:=by simp;omega
          go_enter Tryz.func12,Tryz.ntmps12
          go_wp2_with (first
            | (go_at_call 60;(with_reducible refine (Ct.out).mono ?_);rintro e w1 ⟨rfl,rfl⟩)
            | (go_at_call 63;(with_reducible refine (Ca.out).mono ?_);rintro e w2 ⟨rfl,hb2⟩))
          go_ret
          refine ⟨?_,hb2⟩
          rw [Hck.out,if_pos h120];rfl
        · have d2 : decide ((120 : Int) < (n : Int)) = false:=by simp;omega
          go_enter Tryz.func12,Tryz.ntmps12
          go_wp2_with (first
            | (go_at_call 60;(with_reducible refine (Ct.out).mono ?_);rintro e w1 ⟨rfl,rfl⟩)
            | (go_at_call 63;(with_reducible refine (Ca.out).mono ?_);rintro e w2 ⟨rfl,hb2⟩))
          go_ret
          refine ⟨?_,hb2⟩
          rw [Hck.out,if_neg h120];rfl
      · have z1 : (s.toList != [48]) = true:=by rw [toList_data'];simpa using hz
        have z2 : (s.toList == [48]) = false:=by rw [toList_data'];simpa using hz
        have hck:=Hck.out
        rw [if_pos ⟨h48,hz⟩] at hck
        clear hz
        have Hck:=Lib.hid hck;clear hck
        go_enter Tryz.func12,Tryz.ntmps12
        go_wp2_with (first
          | (go_at_call 60;(with_reducible refine (Ct.out).mono ?_);rintro e w1 ⟨rfl,rfl⟩)
          | (go_at_call 63;(with_reducible refine (Ca.out).mono ?_);rintro e w2 ⟨rfl,hb2⟩))
        go_ret
        refine ⟨?_,hb2⟩
        rw [Hck.out];rfl
    · have d1 : ((c : Int) == 48) = false:=by simp;omega
      have hck:=Hck.out
      rw [if_neg (fun h=>h48 h.1)] at hck
      have Hck:=Lib.hid hck;clear hck
      by_cases h120 : 120 < n
      · have d2 : decide ((120 : Int) < (n : Int)) = true:=by simp;omega
        go_enter Tryz.func12,Tryz.ntmps12
        go_wp2_with (first
          | (go_at_call 60;(with_reducible refine (Ct.out).mono ?_);rintro e w1 ⟨rfl,rfl⟩)
          | (go_at_call 63;(with_reducible refine (Ca.out).mono ?_);rintro e w2 ⟨rfl,hb2⟩))
        go_ret
        refine ⟨?_,hb2⟩
        rw [Hck.out,if_pos h120];rfl
      · have d2 : decide ((120 : Int) < (n : Int)) = false:=by simp;omega
        go_enter Tryz.func12,Tryz.ntmps12
        go_wp2_with (first
          | (go_at_call 60;(with_reducible refine (Ct.out).mono ?_);rintro e w1 ⟨rfl,rfl⟩)
          | (go_at_call 63;(with_reducible refine (Ca.out).mono ?_);rintro e w2 ⟨rfl,hb2⟩))
        go_ret
        refine ⟨?_,hb2⟩
        rw [Hck.out,if_neg h120];rfl
  · rw [Bool.not_eq_true] at ha
    rw [ha] at ca
    have Ca:=Lib.hid ca;clear ca
    go_enter Tryz.func12,Tryz.ntmps12
    go_wp2_with (first
      | (go_at_call 60;(with_reducible refine (Ct.out).mono ?_);rintro e w1 ⟨rfl,rfl⟩)
      | (go_at_call 63;(with_reducible refine (Ca.out).mono ?_);rintro e w2 ⟨rfl,hb2⟩))
    go_ret
    refine ⟨?_,hb2⟩
    rw [Hck.out,if_pos ha];rfl
end Go.Proofs.YtpbegoflpfdajaaGreatDoor

/- Plain arithmetic: numbers written out in decimal digits. -/
namespace Go.Proofs.YtpbegoflpfdajaaGreatDoor
open Go.Lib (decDigits nDigits decDigits_length)

def padL : Nat->Nat->List UInt8
  | 0,_=>[]
  | k + 1,b=>padL k (b / 10) ++ [UInt8.ofNat (48 + b % 10)]
theorem padL_len : ∀ k b,(padL k b).length = k
  | 0,_=>rfl
  | k + 1,b=>by simp [padL,padL_len k]
theorem dec_step (m : Nat) (h : ¬ m < 10) : decDigits m = decDigits (m / 10) ++ [UInt8.ofNat (48 + m % 10)]:=by rw [decDigits,dif_neg h]
theorem dec_pad : ∀ (k a b : Nat),0 < a->b < 10 ^ k->decDigits (a * 10 ^ k + b) = decDigits a ++ padL k b
  | 0,a,b,_,hb=>by
    have : b = 0:=by simpa using hb
    subst this;simp [padL]
  | k + 1,a,b,ha,hb=>by
    have h10 : 10 <= a * 10 ^ (k + 1):=by
      have : 1 <= a * 10 ^ k:=Nat.mul_pos ha (Nat.pow_pos (by omega))
      rw [Nat.pow_succ,<- Nat.mul_assoc];omega
    have e1 : (a * 10 ^ (k + 1) + b) / 10 = a * 10 ^ k + b / 10:=by
      rw [Nat.pow_succ,<- Nat.mul_assoc,Nat.mul_comm _ 10,Nat.mul_add_div (by omega)]
    have e2 : (a * 10 ^ (k + 1) + b) % 10 = b % 10:=by
      rw [Nat.pow_succ,<- Nat.mul_assoc,Nat.mul_comm _ 10,Nat.mul_add_mod]
    rw [dec_step _ (by omega),e1,e2,dec_pad k a (b / 10) ha (by rw [Nat.pow_succ] at hb;omega),padL,List.append_assoc]
theorem nD_pos (b : Nat) : 1 <= nDigits b:=by rw [nDigits];split <;> omega
theorem nD_step (m : Nat) (h : ¬ m < 10) : nDigits m = nDigits (m / 10) + 1:=by rw [nDigits,dif_neg h]
theorem nD_one (m : Nat) (h : m < 10) : nDigits m = 1:=by rw [nDigits,dif_pos h]
theorem nD_le : ∀ (k b : Nat),b < 10 ^ (k + 1)->nDigits b <= k + 1
  | 0,b,h=>by rw [nD_one b (by simpa using h)];omega
  | k + 1,b,h=>by
    by_cases h10 : b < 10
    · rw [nD_one b h10];omega
    · rw [nD_step b h10]
      have:=nD_le k (b / 10) (by rw [Nat.pow_succ] at h;omega)
      omega
theorem padL_zero : ∀ k,padL k 0 = List.replicate k 48
  | 0=>rfl
  | k + 1=>by
    rw [padL,show 0 / 10 = 0 from rfl,padL_zero k,List.replicate_succ'];rfl
theorem pad_zeros : ∀ (k b : Nat),b < 10 ^ (k + 1)->padL (k + 1) b = List.replicate (k + 1 - nDigits b) 48 ++ decDigits b
  | 0,b,h=>by
    have h10 : b < 10:=by simpa using h
    rw [nD_one b h10,decDigits,dif_pos h10]
    simp [padL,Nat.mod_eq_of_lt h10]
  | k + 1,b,h=>by
    by_cases h10 : b < 10
    · rw [nD_one b h10,decDigits,dif_pos h10,padL,Nat.div_eq_of_lt h10,padL_zero,Nat.mod_eq_of_lt h10]
      rfl
    · rw [padL,pad_zeros k (b / 10) (by rw [Nat.pow_succ] at h;omega),nD_step b h10,dec_step b h10,List.append_assoc]
      congr 2
      omega
theorem valL_dec : ∀ (f m : Nat),m <= f->valL (decDigits m) = m
  | f,m,hf=>by
    by_cases h10 : m < 10
    · rw [decDigits,dif_pos h10]
      show 0 * 10 + ((UInt8.ofNat (48 + m)).toNat - 48) = m
      rw [UInt8.toNat_ofNat'];omega
    · rw [dec_step m h10,valL_snoc]
      obtain ⟨f,rfl⟩ : ∃ g,f = g + 1:=⟨f - 1,by omega⟩
      rw [valL_dec f (m / 10) (by omega),UInt8.toNat_ofNat'];omega
theorem valL_decDigits (m : Nat) : valL (decDigits m) = m:=valL_dec m m (Nat.le_refl _)
theorem dec_dig : ∀ (f m : Nat),m <= f->∀ c ∈ decDigits m,isDig c = true
  | f,m,hf=>by
    intro c hc
    by_cases h10 : m < 10
    · rw [decDigits,dif_pos h10] at hc
      simp only [List.mem_singleton] at hc
      subst hc
      simp only [isDig,decide_eq_true_eq,UInt8.toNat_ofNat'];omega
    · rw [dec_step m h10] at hc
      rcases List.mem_append.1 hc with h | h
      · obtain ⟨f,rfl⟩ : ∃ g,f = g + 1:=⟨f - 1,by omega⟩
        exact dec_dig f (m / 10) (by omega) c h
      · simp only [List.mem_singleton] at h
        subst h
        simp only [isDig,decide_eq_true_eq,UInt8.toNat_ofNat'];omega
theorem decDigits_dig (m : Nat) : ∀ c ∈ decDigits m,isDig c = true:=dec_dig m m (Nat.le_refl _)
theorem nD_limbs (m j : Nat) (h : 0 < m / bb ^ j) : nDigits m = j * 9 + nDigits (m / bb ^ j):=by
  have e:=dec_pad (j * 9) (m / bb ^ j) (m % bb ^ j) h (by rw [Nat.mul_comm,Nat.pow_mul,<- bb_ten];exact Nat.mod_lt _ (bb_pow_pos j))
  have e2 : m / bb ^ j * 10 ^ (j * 9) + m % bb ^ j = m:=by
    rw [Nat.mul_comm j 9,Nat.pow_mul,<- bb_ten,Nat.mul_comm];exact Nat.div_add_mod _ _
  rw [e2] at e
  have:=congrArg List.length e
  rw [List.length_append,decDigits_length,decDigits_length,padL_len] at this
  omega
theorem dec_limb (m j : Nat) (h : 0 < m / bb ^ (j + 1)) : decDigits (m / bb ^ j) = decDigits (m / bb ^ (j + 1)) ++ padL 9 (lim m j):=by
  have e:=dec_pad 9 (m / bb ^ (j + 1)) (lim m j) h (by have:=lim_lt m j;rwa [bb_ten] at this)
  rw [<- e]
  congr 1
  unfold lim
  rw [Nat.pow_succ,<- Nat.div_div_eq_div_mul,<- bb_ten,Nat.mul_comm]
  exact (Nat.div_add_mod _ _).symm
theorem nD_lt : ∀ (k m : Nat),nDigits m <= k->m < 10 ^ k
  | 0,m,h=>by have:=nD_pos m;omega
  | k + 1,m,h=>by
    by_cases h10 : m < 10
    · exact Nat.lt_of_lt_of_le h10 (by rw [Nat.pow_succ];have : 1 <= 10 ^ k:=Nat.pow_pos (by omega);omega)
    · rw [nD_step m h10] at h
      have:=nD_lt k (m / 10) (by omega)
      rw [Nat.pow_succ];omega
end Go.Proofs.YtpbegoflpfdajaaGreatDoor

namespace Go.Proofs.YtpbegoflpfdajaaGreatDoor
open Go.RowKit
open Go.Lib (decDigits nDigits decDigits_length)

structure Gl (w : World) : Prop where
  pow : Pow w
  tab : Lib.TabIs Tryz.prog w "internal/strconv.uint64pow10" .u64 Lib.pow10Tab
  es : ∃ te pe,w.cell? ⟨2,0,none⟩ = some (.iface te pe)
  er : ∃ te pe,w.cell? ⟨3,0,none⟩ = some (.iface te pe)
  ml : ∃ m,w.cell? ⟨4,0,none⟩ = some (.int .i64 m)
theorem pow_global : Tryz.prog.globalNamed "internal/strconv.uint64pow10" = some 1:=by kernel_rfl
theorem tab_keep {w w' : World} (h : Lib.TabIs Tryz.prog w "internal/strconv.uint64pow10" .u64 Lib.pow10Tab) (hb : Below w.heap.size w w') : Lib.TabIs Tryz.prog w' "internal/strconv.uint64pow10" .u64 Lib.pow10Tab:=by
  refine var?_below hb pow_global ?_ h
  unfold Lib.TabIs World.var? at h
  rw [pow_global] at h
  simp only [Option.bind_some] at h
  rcases Nat.lt_or_ge 1 w.heap.size with h' | h'
  · exact h'
  · rw [Array.getElem?_eq_none h'] at h;cases h
theorem Gl.keep {w w' : World} (h : Gl w) (hb : Below w.heap.size w w') : Gl w' :=
  ⟨h.pow.keep hb,tab_keep h.tab hb,let ⟨a,b,e⟩:=h.es;⟨a,b,cell_keep e hb⟩,let ⟨a,b,e⟩:=h.er;⟨a,b,cell_keep e hb⟩,let ⟨m,e⟩:=h.ml;⟨m,cell_keep e hb⟩⟩

theorem itoa_any (u : Nat) (hu : u < 9223372036854775808) (w : World) (hg : Gl w) :
    Calls Tryz.prog 66 #[.int .i64 u] w fun e w'=>e = .returned (.string ⟨(decDigits u).toArray⟩)/\Below w.heap.size w w':=by
  refine (Tryz.strconv_Itoa u (by omega) (by omega) w hg.tab).mono ?_
  rintro e w' ⟨rfl,k,os,rfl⟩
  exact ⟨by rw [Lib.itoa_nonneg],Lib.below_grow _ _ (Nat.le_refl _) k os⟩

def digN (n : Nat) : Nat:=if n = 0 then 0 else nDigits n
theorem digN_limbs (n : Nat) (h : n ≠ 0) : digN n = (lsz n - 1) * 9 + nDigits (lim n (lsz n - 1)):=by
  have h1 : n / bb ^ (lsz n - 1) = lim n (lsz n - 1):=by
    unfold lim
    refine (Nat.mod_eq_of_lt ?_).symm
    rw [Nat.div_lt_iff_lt_mul (bb_pow_pos _),<- Nat.pow_succ',show (lsz n - 1).succ = lsz n by have:=lsz_pos h;omega]
    exact lsz_lt n
  have h2:=lim_top h
  unfold digN
  rw [if_neg h,nD_limbs n (lsz n - 1) (by omega),h1]

set_option maxHeartbeats 400000 in
theorem digits_any (n : Nat) (hn : n < bb ^ 30) (w : World) (hg : Gl w) :
    Calls Tryz.prog 156 #[.agg (mgL n).toArray] w fun e w'=>e = .returned (.int .i64 (digN n))/\Below w.heap.size w w':=by
  have Hn:=Lib.hid hn
  have hl:=(lsz_le_iff 30 n).2 hn
  have HG:=Lib.hid (hg.keep ((Below.refl _ w).alloc (Nat.le_refl _) (.cells (mgL n).toArray 86)));clear hg
  have HB:=Lib.hid (show Below w.heap.size w (w.alloc (.cells (mgL n).toArray 86)) from (Below.refl w.heap.size w).alloc (Nat.le_refl _) _)
  have Hr:=Lib.hid (show (w.alloc (.cells (mgL n).toArray 86)).rangeAt w.heap.size 0 (mgL n) from range_new w _ 86)
  by_cases h0 : n = 0
  · subst h0
    have cs:=size_any 0 hn
    rw [lsz_zero] at cs
    change ∀ w,Calls Tryz.prog 159 #[.agg (mgL 0).toArray] w (fun e w'=>e = .returned (.int .i64 0)/\Below w.heap.size w w') at cs
    have Cs:=Lib.hid cs;clear cs hn hl
    go_enter Tryz.func156,Tryz.ntmps156
    go_wp2_with (first
      | ((with_reducible refine ld86 w.heap.size 0 0 ?_ ?_ ?_);(· exact ⟨rfl,_,rfl,rfl⟩);· exact Hr.out)
      | (go_at_call 159;(with_reducible refine (Cs.out _).mono ?_);rintro e w1 ⟨rfl,hb1⟩))
    go_ret
    exact ⟨by rw [show digN 0 = 0 from rfl];rfl,HB.out.trans (hb1.mono HB.out.size)⟩
  · have hdn:=digN_limbs n h0
    have hp:=lsz_pos h0
    obtain ⟨j,hj⟩ : ∃ j,lsz n = j + 1:=⟨lsz n - 1,by omega⟩
    have cs:=size_any n hn
    rw [hj] at cs hdn hl
    rw [show j + 1 - 1 = j by omega] at hdn
    have Cs:=Lib.hid cs
    have Hdn:=Lib.hid hdn
    have hll:=lim_lt' n j
    have hD : nDigits (lim n j) <= 9:=nD_le 8 _ (by have:=lim_lt' n j;omega)
    have hsz : (⟨(decDigits (lim n j)).toArray⟩ : ByteArray).size = nDigits (lim n j):=by simp [ByteArray.size,decDigits_length]
    have Hci:=Lib.hid (fun w h=>itoa_any (lim n j) (by omega) w h)
    obtain ⟨T,hT⟩ : ∃ T : ByteArray,⟨(decDigits (lim n j)).toArray⟩ = T:=⟨_,rfl⟩
    rw [hT] at hsz Hci
    have Hlim:=Lib.hid (mgL_get (n:=n) (i:=j) (by omega))
    obtain ⟨v,hv⟩ : ∃ v,lim n j = v:=⟨_,rfl⟩
    rw [hv] at hll hD hsz Hci Hdn Hlim
    clear cs hdn hp hj hT hv hn h0
    go_enter Tryz.func156,Tryz.ntmps156
    go_wp2_with (first
      | ((with_reducible refine ld86 w.heap.size 0 n ?_ ?_ ?_);(· exact ⟨rfl,_,rfl,rfl⟩);· exact Hr.out)
      | (go_at_call 159;(with_reducible refine (Cs.out _).mono ?_);rintro e w1 ⟨rfl,hb1⟩;have hc1:=cell_keep (cell_of_range Hr.out Hlim.out) hb1;have HB1:=Lib.hid hb1;clear hb1)
      | (go_at_call 66;(with_reducible refine (Hci.out _ (HG.out.keep HB1.out)).mono ?_);rintro e w2 ⟨rfl,hb2⟩;have HB2:=Lib.hid hb2;clear hb2))
    go_ret
    refine ⟨?_,(HB.out.trans (HB1.out.mono HB.out.size)).trans (HB2.out.mono (HB.out.trans (HB1.out.mono HB.out.size)).size)⟩
    have e : ((digN n : Nat) : Int) = (j : Int) * 9 + (nDigits v : Int):=by rw [Hdn.out];omega
    rw [e];rfl
end Go.Proofs.YtpbegoflpfdajaaGreatDoor

namespace Go.Proofs.YtpbegoflpfdajaaGreatDoor
open Go.RowKit

def fitsV (n : Nat) : Int:=if 120 < digN n then 4 else 0
set_option maxHeartbeats 400000 in
theorem fits_any (n : Nat) (s : Bool) (hn : n < bb ^ 30) (w : World) (hg : Gl w) :
    Calls Tryz.prog 89 #[.agg (sgL n s).toArray] w fun e w'=>e = .returned (.int .i64 (fitsV n))/\Below w.heap.size w w':=by
  have HG:=Lib.hid (hg.keep ((Below.refl _ w).alloc (Nat.le_refl _) (.cells (sgL n s).toArray 88)));clear hg
  have HB:=Lib.hid (show Below w.heap.size w (w.alloc (.cells (sgL n s).toArray 88)) from (Below.refl w.heap.size w).alloc (Nat.le_refl _) _)
  have Hr:=Lib.hid (show (w.alloc (.cells (sgL n s).toArray 88)).rangeAt w.heap.size 0 (mgL n) from (range_sg (range_new w _ 88)).1)
  have Cd:=Lib.hid (digits_any n hn _ HG.out);clear hn
  by_cases h : 120 < digN n
  · have d : decide ((120 : Int) < (digN n : Int)) = true:=by simp;omega
    have Hf:=Lib.hid (show fitsV n = 4 by unfold fitsV;rw [if_pos h])
    obtain ⟨v,hv⟩ : ∃ v,digN n = v:=⟨_,rfl⟩
    rw [hv] at Cd d
    clear h hv
    go_enter Tryz.func89,Tryz.ntmps89
    go_wp2_with (first
      | ((with_reducible refine ld86 w.heap.size 0 n ?_ ?_ ?_);(· exact ⟨rfl,_,rfl,rfl⟩);· exact Hr.out)
      | (go_at_call 156;(with_reducible refine (Cd.out).mono ?_);rintro e w1 ⟨rfl,hb1⟩))
    go_ret
    exact ⟨by rw [Hf.out];rfl,HB.out.trans (hb1.mono HB.out.size)⟩
  · have d : decide ((120 : Int) < (digN n : Int)) = false:=by simp;omega
    have Hf:=Lib.hid (show fitsV n = 0 by unfold fitsV;rw [if_neg h])
    obtain ⟨v,hv⟩ : ∃ v,digN n = v:=⟨_,rfl⟩
    rw [hv] at Cd d
    clear h hv
    go_enter Tryz.func89,Tryz.ntmps89
    go_wp2_with (first
      | ((with_reducible refine ld86 w.heap.size 0 n ?_ ?_ ?_);(· exact ⟨rfl,_,rfl,rfl⟩);· exact Hr.out)
      | (go_at_call 156;(with_reducible refine (Cd.out).mono ?_);rintro e w1 ⟨rfl,hb1⟩))
    go_ret
    exact ⟨by rw [Hf.out];rfl,HB.out.trans (hb1.mono HB.out.size)⟩
end Go.Proofs.YtpbegoflpfdajaaGreatDoor

namespace Go.Proofs.YtpbegoflpfdajaaGreatDoor
open Go.RowKit
open Go.Lib (decDigits nDigits decDigits_length byteCells)

theorem Tryz.info5 : (Tryz.prog.info? 5).map (fun i=>(i.zero,i.size,i.bytes)) = some (some (.int .u8 0),1,1):=by kernel_rfl
def DT (D : Nat) (bs : List UInt8) (W : World) : Prop:=∃ v,Boxed W D 203 v/\W.ownsRow D 5 1 v bs.length (byteCells bs)
theorem DT.lt {D : Nat} {bs : List UInt8} {W : World} (h : DT D bs W) : D < W.heap.size:=let ⟨_,hv,_⟩:=h;hv.lt
theorem grown_of_below {A B : World} (h : Below A.heap.size A B) : A.grownBy B none:=⟨h.os,h.tape,h.output,h.size,fun k hk _=>h.block k hk⟩
theorem DT.below {D : Nat} {bs : List UInt8} {A B : World} (h : DT D bs A) (hb : Below A.heap.size A B) : DT D bs B :=
  let ⟨v,hv,hr⟩:=h
  ⟨v,hv.kept (grown_of_below hb) (by simp),hr.kept (grown_of_below hb) (by cases v.ownBlock <;> simp)⟩
theorem byteCells_snoc (bs : List UInt8) (c : UInt8) : byteCells (bs ++ [c]) = byteCells bs ++ [.int .u8 (c.toNat : Int)]:=by simp [byteCells]

set_option maxHeartbeats 1000000 in
set_option maxRecDepth 100000 in
theorem put_any (v : Nat) (hv : v < bb) (k : Nat) (hk : k <= 9) (D : Nat) (bs : List UInt8) (hlen : bs.length <= 1000) (w : World) (hD : DT D bs w) (hg : Gl w) :
    Calls Tryz.prog 198 #[.pointer (some ⟨D,0,none⟩),.int .u32 v,.int .i64 k] w fun e w'=>e = .returned (.tuple #[])/\DT D (bs ++ (List.replicate (k - nDigits v) 48 ++ decDigits v)) w'/\Below D w w':=by
  obtain ⟨i0,hi,hz0,hz1,hz2⟩:=info_parts Tryz.info5
  have hv9 : v < 1000000000:=hv
  have hnd : nDigits v <= 9:=nD_le 8 _ (by omega)
  obtain ⟨T,hT⟩ : ∃ T : ByteArray,⟨(decDigits v).toArray⟩ = T:=⟨_,rfl⟩
  have hsz : T.size = nDigits v:=by rw [<- hT];simp [ByteArray.size,decDigits_length]
  have hcells : Lib.strCells T = byteCells (decDigits v):=by rw [<- hT];rfl
  have ci:=itoa_any v (by omega) w hg
  rw [hT] at ci
  have Ci:=Lib.hid ci
  have Hcells:=Lib.hid hcells
  have HD:=Lib.hid hD
  have hlt:=hD.lt
  have hnd1:=nD_pos v
  have hdl:=decDigits_length v
  obtain ⟨nd,hn⟩ : ∃ nd,nDigits v = nd:=⟨_,rfl⟩
  rw [hn] at hnd hsz hnd1 hdl ⊢
  have Hdl:=Lib.hid hdl;clear hdl
  clear ci hcells hT hg hn hv hD
  go_enter Tryz.func198,Tryz.ntmps198
  go_wp2_with (go_at_call 66;(with_reducible refine (Ci.out).mono ?_);rintro e w1 ⟨rfl,hb1⟩;have HB1:=Lib.hid hb1;clear hb1)
  go_loopw [14] (fun i wr=>∃ j : Nat,i = .int .i64 j/\j <= k - nd/\DT D (bs ++ List.replicate j 48) wr/\Below D w wr) (fun i _=>k - (intOf i).toNat)
  case atStart=>exact ⟨0,rfl,by omega,by simpa using HD.out.below HB1.out,HB1.out.mono (by omega)⟩
  case round =>
    obtain ⟨j,rfl,hj,hdt,hbl⟩:=hrel
    by_cases h : j < k - nd
    · have d1 : decide ((j : Int) < (k : Int) - (nd : Int)) = true:=by simp;omega
      obtain ⟨x,hx,hrow⟩:=hdt
      have hc:=hx.cell
      have hf:=hx.frozen
      have hlenj : (bs ++ List.replicate j 48).length = bs.length + j:=by simp
      rw [hlenj] at hrow
      have hxl:=hx.lt
      obtain ⟨bl,hbs⟩ : ∃ bl,bs.length = bl:=⟨_,rfl⟩
      rw [hbs] at hrow hlen
      have Hx:=Lib.hid hx;have Hrow:=Lib.hid hrow
      have Hbs:=Lib.hid hbs
      clear hx hrow hlenj hbs
      go_wp2_with (at_builtin;refine wpList_append_own _ rfl _ _ 152 rfl D 5 i0 (.int .u8 0) 1 1 Tryz.underlying152 hi hz0 hz1 hz2 rfl (by decide) _ _ _ rfl (Hrow.out.alloc _) ⟨wr.heap.size,0,none⟩ 1 1 [.int .u8 48] rfl rfl ?c1 ?c2 ?c3 ?c4 ?c5 ?_)
      case c1=>intro q u hq;cases q with
        | zero=>simp at hq;subst hq;simp [Addr.add]
        | succ q=>simp at hq
      case c2=>simp [Value.oneCell']
      case c3=>unfold maxLen;omega
      case c4=>omega
      case c5=>simp;omega
      · intro v' w3 hown' hgrow _
        obtain ⟨g',cap',rfl⟩:=ownsRow_succ hown'
        obtain ⟨hv1,hv2,hr2,_,hb2⟩:=Hx.out.appended (by decide) Hrow.out (by omega) (Nat.le_refl _) hown' hgrow
        have hc1:=hv1.cell
        have hf1:=hv1.frozen
        have hnew : DT D (bs ++ List.replicate (j + 1) 48) (w3.setCell ⟨D,0,none⟩ (.slice (some ⟨g',0,none⟩) (bl + j + 1) cap')):=by
          refine ⟨_,hv2,?_⟩
          have e : bs ++ List.replicate (j + 1) 48 = (bs ++ List.replicate j 48) ++ [48]:=by rw [List.replicate_succ',List.append_assoc]
          have e3 : ((bs ++ List.replicate j 48) ++ [(48 : UInt8)]).length = bl + j + 1:=by
            have:=Hbs.out
            simp only [List.length_append,List.length_replicate,List.length_cons,List.length_nil];omega
          rw [e,byteCells_snoc,e3]
          exact hr2
        have Hnew:=Lib.hid hnew
        have Hbn:=Lib.hid (hbl.trans (hb2.mono (by omega)))
        clear hown' hgrow hv1 hv2 hr2 hb2 hnew
        go_wp2
        go_roundw
        case rel=>exact ⟨j + 1,by go_num,by omega,Hnew.out,Hbn.out⟩
        case measure=>simp [intOf];omega
    · have hjn : j = k - nd:=by omega
      have d1 : decide ((j : Int) < (k : Int) - (nd : Int)) = false:=by simp;omega
      subst hjn
      obtain ⟨x,hx,hrow⟩:=hdt
      have hc:=hx.cell
      have hf:=hx.frozen
      have hlenj : (bs ++ List.replicate (k - nd) 48).length = bs.length + (k - nd):=by simp
      rw [hlenj] at hrow
      have hxl:=hx.lt
      obtain ⟨bl,hbs⟩ : ∃ bl,bs.length = bl:=⟨_,rfl⟩
      rw [hbs] at hrow hlen
      have Hx:=Lib.hid hx;have Hrow:=Lib.hid hrow
      have Hbs:=Lib.hid hbs
      clear hx hrow hlenj hbs
      go_wp2_with (at_builtin;refine Lib.wpList_append_own_string _ rfl _ _ 152 9 rfl D 5 i0 Tryz.underlying152 Tryz.underlying9 hi hz0 hz1 hz2 _ _ _ rfl Hrow.out T rfl ?c1 ?c2 ?c3 ?_)
      case c1=>unfold maxLen;omega
      case c2=>omega
      case c3=>omega
      · intro v' w3 hown' hgrow _
        obtain ⟨q,hq⟩ : ∃ q,bl + (k - nd) + nd = q + 1:=⟨bl + (k - nd) + nd - 1,by omega⟩
        rw [hq] at hown'
        obtain ⟨g',cap',rfl⟩:=ownsRow_succ hown'
        have hv1:=Hx.out.kept hgrow (Hx.out.not_row (by decide) Hrow.out)
        have hc1:=hv1.cell
        have hf1:=hv1.frozen
        have hb2 : Below D wr (w3.setCell ⟨D,0,none⟩ (.slice (some ⟨g',0,none⟩) (q + 1) cap')) :=
          ((Below.refl D wr).grown hgrow (by omega) (fun j ej=>(Hrow.out.lt j ej).1)).setCell (p:=⟨D,0,none⟩) (Nat.le_refl _) _
        have hnew : DT D (bs ++ (List.replicate (k - nd) 48 ++ decDigits v)) (w3.setCell ⟨D,0,none⟩ (.slice (some ⟨g',0,none⟩) (q + 1) cap')):=by
          refine ⟨_,hv1.set _,?_⟩
          have e : byteCells (bs ++ (List.replicate (k - nd) 48 ++ decDigits v)) = byteCells (bs ++ List.replicate (k - nd) 48) ++ Lib.strCells T:=by
            rw [Hcells.out];simp [byteCells]
          have e3 : (bs ++ (List.replicate (k - nd) 48 ++ decDigits v)).length = q + 1:=by
            have h1:=Hbs.out;have h2:=Hdl.out
            simp only [List.length_append,List.length_replicate];omega
          rw [e,e3]
          exact hown'.kept (grownBy_setCell' w3 D _) (.inr (hv1.not_row (by decide) hown').symm)
        have Hnew:=Lib.hid hnew
        have Hbn:=Lib.hid (hbl.trans (hb2.mono (by omega)))
        clear hown' hgrow hv1 hb2 hnew
        go_wp2
        go_end0
        exact ⟨rfl,Hnew.out,Hbn.out⟩
end Go.Proofs.YtpbegoflpfdajaaGreatDoor

namespace Go.Proofs.YtpbegoflpfdajaaGreatDoor
open Go.RowKit
open Go.Lib (decDigits nDigits decDigits_length byteCells)

theorem nD_bound (m c : Nat) (h : m < bb ^ c) (hc : 1 <= c) : nDigits m <= 9 * c:=by
  rw [bb_ten,<- Nat.pow_mul] at h
  obtain ⟨k,hk⟩ : ∃ k,9 * c = k + 1:=⟨9 * c - 1,by omega⟩
  rw [hk] at h ⊢
  exact nD_le k m h
theorem row_text {W : World} {D : Nat} {v : Value} {l : List UInt8} {k : Nat} (h : W.ownsRow D 5 1 v (k + 1) (byteCells l)) (hl : l.length = k + 1) :
    ∃ g cap,v = .slice (some ⟨g,0,none⟩) (k + 1) cap/\(convert 152 9 (.slice (some ⟨g,0,none⟩) (k + 1) cap)).run Tryz.prog W = .ok (.string ⟨l.toArray⟩) W:=by
  obtain ⟨g,cap,rfl⟩:=ownsRow_succ h
  refine ⟨g,cap,rfl,?_⟩
  have hc:=h.cells (g:=g) rfl
  rw [<- hl]
  exact run_convert_bytes_back W 152 9 5 ⟨g,0,none⟩ cap l Tryz.underlying152 Tryz.underlying5 Tryz.underlying9 (fun j hj=>hc j _ (by simp [byteCells,hj]))
theorem put_one (v : Nat) (hv : v < bb) (D : Nat) (w : World) (hD : DT D [] w) (hg : Gl w) :
    Calls Tryz.prog 198 #[.pointer (some ⟨D,0,none⟩),.int .u32 v,.int .i64 1] w fun e w'=>e = .returned (.tuple #[])/\DT D (decDigits v) w'/\Below D w w':=by
  refine (put_any v hv 1 (by omega) D [] (by simp) w hD hg).mono ?_
  rintro e w' ⟨h1,h2,h3⟩
  have:=nD_pos v
  rw [show 1 - nDigits v = 0 by omega] at h2
  exact ⟨h1,h2,h3⟩
theorem put_nine (v : Nat) (hv : v < bb) (D : Nat) (bs : List UInt8) (hlen : bs.length <= 1000) (w : World) (hD : DT D bs w) (hg : Gl w) :
    Calls Tryz.prog 198 #[.pointer (some ⟨D,0,none⟩),.int .u32 v,.int .i64 9] w fun e w'=>e = .returned (.tuple #[])/\DT D (bs ++ padL 9 v) w'/\Below D w w':=by
  refine (put_any v hv 9 (by omega) D bs hlen w hD hg).mono ?_
  rintro e w' ⟨h1,h2,h3⟩
  rw [<- pad_zeros 8 v (by unfold bb at hv;omega)] at h2
  exact ⟨h1,h2,h3⟩

set_option maxHeartbeats 1000000 in
set_option maxRecDepth 100000 in
theorem string_any (n : Nat) (hn : n < bb ^ 30) (w : World) (hg : Gl w) :
    Calls Tryz.prog 157 #[.agg (mgL n).toArray] w fun e w'=>e = .returned (.string ⟨(decDigits n).toArray⟩)/\Below w.heap.size w w':=by
  have Hr:=Lib.hid (show ((w.alloc (.cells (mgL n).toArray 86)).alloc (.cells #[.slice none 0 0] 203)).rangeAt w.heap.size 0 (mgL n) from World.rangeAt_alloc (range_new w _ 86) _)
  have HB:=Lib.hid (show Below w.heap.size w ((w.alloc (.cells (mgL n).toArray 86)).alloc (.cells #[.slice none 0 0] 203)) from ((Below.refl w.heap.size w).alloc (Nat.le_refl _) _).alloc (by simp) _)
  have HG:=Lib.hid (hg.keep HB.out)
  have hD : DT (w.heap.size + 1) [] ((w.alloc (.cells (mgL n).toArray 86)).alloc (.cells #[.slice none 0 0] 203)) :=
    ⟨.slice none 0 0,by have:=Boxed.new (w.alloc (.cells (mgL n).toArray 86)) 203 (.slice none 0 0);rwa [World.size_alloc] at this,World.ownsRow_nil _ _ _ _⟩
  have HD:=Lib.hid hD;clear hD
  have hl:=(lsz_le_iff 30 n).2 hn
  have cs:=fun w=>size_any n hn w
  obtain ⟨t,ht⟩ : ∃ t,lsz n - 1 = t:=⟨_,rfl⟩
  have ht30 : t < 30:=by omega
  have htop : n / bb ^ t = lim n t:=by
    unfold lim
    refine (Nat.mod_eq_of_lt ?_).symm
    rw [Nat.div_lt_iff_lt_mul (bb_pow_pos _),<- Nat.pow_succ']
    exact Nat.lt_of_lt_of_le (lsz_lt n) (pow_mono (by omega))
  have hpos : 0 < t->0 < n / bb ^ t:=by
    intro h
    have h0 : n ≠ 0:=by rintro rfl;rw [lsz_zero] at ht;omega
    have:=lsz_top h0
    rw [ht] at this
    exact Nat.div_pos this (bb_pow_pos t)
  obtain ⟨L,hL⟩ : ∃ L,lsz n = L:=⟨_,rfl⟩
  rw [hL] at cs hl ht
  have hmax : max (wrap64 ((L : Int) - 1)) 0 = (t : Int):=by
    unfold wrap64;omega
  have Hg0:=Lib.hid hg
  have Hn:=Lib.hid hn
  have Cs:=Lib.hid cs
  have Htop:=Lib.hid htop;have Hpos:=Lib.hid hpos
  have Hs:=Lib.hid (show w.heap.size + 1 < ((w.alloc (.cells (mgL n).toArray 86)).alloc (.cells #[.slice none 0 0] 203)).heap.size by simp)
  clear cs ht htop hpos hL hg hn hl
  go_enter Tryz.func157,Tryz.ntmps157
  go_wp2_with (first
    | ((with_reducible refine ld86 w.heap.size 0 n ?_ ?_ ?_);(· exact ⟨rfl,_,rfl,rfl⟩);· exact Hr.out)
    | (go_at_call 159;(with_reducible refine (Cs.out _).mono ?_);rintro e w1 ⟨rfl,hb1⟩;have hc1:=cell_keep (cell_of_range Hr.out (mgL_get (n:=n) ht30)) hb1;have HB1:=Lib.hid hb1;clear hb1)
    | (go_at_call 198;(with_reducible refine (put_one (lim n t) (lim_lt n t) (w.heap.size + 1) _ (HD.out.below HB1.out) (HG.out.keep HB1.out)).mono ?_);rintro e w2 ⟨rfl,hd2,hb2⟩;have HD2:=Lib.hid hd2;have HB2:=Lib.hid hb2;clear hd2 hb2))

  have hW2 : Below (w.heap.size + 1) ((w.alloc (.cells (mgL n).toArray 86)).alloc (.cells #[.slice none 0 0] 203)) w2:=(HB1.out.mono (by have:=Hs.out;omega)).trans HB2.out
  have HW2:=Lib.hid hW2;clear hW2 hc1
  have hdt2 : DT (w.heap.size + 1) (decDigits (n / bb ^ t)) w2:=by rw [Htop.out];exact HD2.out
  have HDT2:=Lib.hid hdt2;clear hdt2
  go_loopw [19] (fun i wr=>∃ j : Nat,i = .int .i64 j/\j <= t/\DT (w.heap.size + 1) (decDigits (n / bb ^ (t - j))) wr/\Below (w.heap.size + 1) w2 wr) (fun i _=>t - (intOf i).toNat)
  case atStart=>exact ⟨0,rfl,by omega,HDT2.out,Below.refl _ _⟩
  case round =>
    obtain ⟨j,rfl,hj,hdt,hbl⟩:=hrel
    have hW:=HW2.out.trans hbl
    have hw0 : Below w.heap.size w wr:=HB.out.trans (hW.mono (by omega))
    have hgl:=Hg0.out.keep hw0
    by_cases h : j < t
    · have d1 : decide ((j : Int) < (t : Int)) = true:=by simp;omega
      obtain ⟨i,hi⟩ : ∃ i,t - 1 - j = i:=⟨_,rfl⟩
      have e1 : t - j = i + 1:=by omega
      have e2 : (t : Int) - 1 - (j : Int) = (i : Int):=by omega
      have e3 : t - (j + 1) = i:=by omega
      have e4 : wrap64 ((t : Int) - 1 - (j : Int)) = (i : Int):=by unfold wrap64;omega
      have hcell : wr.cell? ⟨w.heap.size,i,none⟩ = some (.int .u32 (lim n i)) :=
        (hW.cell (p:=⟨w.heap.size,i,none⟩) (by simp)).trans (cell_of_range Hr.out (mgL_get (by omega)))
      rw [e1] at hdt
      have hp : 0 < n / bb ^ (i + 1):=Nat.lt_of_lt_of_le (Hpos.out (by omega)) (Nat.div_le_div_left (pow_mono (by omega)) (bb_pow_pos _))
      have hst:=dec_limb n i hp
      have hln : (decDigits (n / bb ^ (i + 1))).length <= 1000:=by
        rw [decDigits_length]
        have:=nD_bound (n / bb ^ (i + 1)) 30 (Nat.lt_of_le_of_lt (Nat.div_le_self _ _) Hn.out) (by omega)
        omega
      have cp:=put_nine (lim n i) (lim_lt n i) (w.heap.size + 1) _ hln wr hdt hgl
      rw [<- hst] at cp
      have Cp:=Lib.hid cp
      clear cp hst hp hln hdt hgl hw0 hW
      have Hbl:=Lib.hid hbl;clear hbl
      go_wp2_with (first
        | (go_at_call 198;(with_reducible refine (Cp.out).mono ?_);rintro e w4 ⟨rfl,hd4,hb4⟩;have HD4:=Lib.hid hd4;have HB4:=Lib.hid hb4;clear hd4 hb4))
      go_roundw
      case rel=>exact ⟨j + 1,by go_num,by omega,by rw [e3];exact HD4.out,Hbl.out.trans HB4.out⟩
      case measure=>simp [intOf];omega
    · have hjt : j = t:=by omega
      have d1 : decide ((j : Int) < (t : Int)) = false:=by simp;omega
      rw [hjt,Nat.sub_self,Nat.pow_zero,Nat.div_one] at hdt
      obtain ⟨v,hv,hrow⟩:=hdt
      have hpos:=nD_pos n
      obtain ⟨q,hq⟩ : ∃ q,(decDigits n).length = q + 1:=⟨nDigits n - 1,by rw [decDigits_length];omega⟩
      rw [hq] at hrow
      obtain ⟨g,cap,rfl,hcv⟩:=row_text hrow hq
      have hcell:=hv.cell
      have HV:=Lib.hid hw0
      clear hrow hv hw0 hW hgl hq hbl hpos
      obtain ⟨T,hT⟩ : ∃ T : ByteArray,⟨(decDigits n).toArray⟩ = T:=⟨_,rfl⟩
      rw [hT] at hcv
      have HT:=Lib.hid hT;clear hT
      go_wp2
      go_ret
      exact ⟨by rw [HT.out];rfl,HV.out⟩
end Go.Proofs.YtpbegoflpfdajaaGreatDoor

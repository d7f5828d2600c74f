/- WHAT IS PROVED: contracts of functions of the numbers package and laws for them, used by the last text of this claim. CONDITIONS: stated at each theorem. -/
import Derived.Test.YtpbegoflpfdajaaGreatDoorB30
import Derived.Test.YtpbegoflpfdajaaGreatDoorB10
namespace Go.Proofs.YtpbegoflpfdajaaGreatDoor
section
open Go.RowKit
open Go.Lib (decDigits nDigits decDigits_length)
def sgn (n : Nat) (s : Bool) : Int:=if s then -(n : Int) else n
def vz (x : ByteArray) : Int:=sgn (intM x.data.toList) (intS x.data.toList)
def tz (z : Int) : ByteArray:=⟨(sgText z.natAbs (decide (z < 0))).toArray⟩
def Okz (x : ByteArray) : Prop:=ckL x.data.toList = 0
theorem valL_pos : ∀ (l : List UInt8) (c : UInt8) (t : List UInt8),l = c :: t->49 <= c.toNat->0 < valL l
  | l,c,t,e,h=>by
    subst e
    unfold valL
    rw [List.foldl_cons]
    generalize hv : 0 * 10 + (c.toNat - 48) = v
    have h0 : 0 < v:=by omega
    clear hv h
    induction t generalizing v with
    | nil=>exact h0
    | cons d t ih=>rw [List.foldl_cons];exact ih _ (by omega)
theorem dec_val_aux : ∀ (k : Nat) (l : List UInt8),l.length <= k->0 < l.length->(∀ c ∈ l,isDig c = true)->(l.head? = some 48->l = [48])->decDigits (valL l) = l
  | 0,l,h1,h2,_,_=>by omega
  | k + 1,l,h1,h2,hd,hh=>by
    obtain ⟨t,c,rfl⟩ : ∃ t c,l = t ++ [c]:=⟨l.dropLast,l.getLast (by intro e;rw [e] at h2;simp at h2),(List.dropLast_concat_getLast _).symm⟩
    have hc:=hd c (by simp)
    simp only [isDig,decide_eq_true_eq] at hc
    rw [valL_snoc]
    cases t with
    | nil =>
      rw [show valL [] = 0 from rfl,Nat.zero_mul,Nat.zero_add,Lib.decDigits_one (by omega)]
      rw [show 48 + (c.toNat - 48) = c.toNat by omega]
      simp
    | cons d t =>
      have hdd:=hd d (by simp)
      simp only [isDig,decide_eq_true_eq] at hdd
      have hne : d ≠ 48:=by
        intro e
        subst e
        have:=hh (by simp)
        simp at this
      have h49 : 49 <= d.toNat:=by
        have : d.toNat ≠ 48:=fun e=>hne (UInt8.toNat_inj.1 (by rw [e];rfl))
        omega
      have hp:=valL_pos (d :: t) d t rfl h49
      have hi:=dec_val_aux k (d :: t) (by simp at h1 ⊢;omega) (by simp) (fun x hx=>hd x (by simp at hx ⊢;rcases hx with h | h <;> simp [h])) (fun e=>absurd (by simpa using e) hne)
      rw [dec_step _ (by omega),show (valL (d :: t) * 10 + (c.toNat - 48)) / 10 = valL (d :: t) by omega,show (valL (d :: t) * 10 + (c.toNat - 48)) % 10 = c.toNat - 48 by omega,hi,show 48 + (c.toNat - 48) = c.toNat by omega]
      simp
theorem dec_val (l : List UInt8) (h2 : 0 < l.length) (hd : ∀ c ∈ l,isDig c = true) (hh : l.head? = some 48->l = [48]) : decDigits (valL l) = l :=
  dec_val_aux l.length l (Nat.le_refl _) h2 hd hh
theorem okz_parts {l : List UInt8} (h : ckL l = 0) : 0 < (noMinus l).length/\(∀ c ∈ noMinus l,isDig c = true)/\((noMinus l).head? = some 48->l = [48])/\(noMinus l).length <= 120:=by
  obtain ⟨h1,h2,h3⟩:=ck_dig l h
  refine ⟨h2,fun c hc=>?_,fun hh=>?_,h3⟩
  · obtain ⟨i,hi,rfl⟩:=List.getElem_of_mem hc
    simp only [isDig,decide_eq_true_eq]
    exact h1.2 i hi
  · unfold ckL at h
    split at h
    · omega
    · split at h
      · omega
      · rename_i hn
        exact Classical.byContradiction fun hl=>hn ⟨hh,hl⟩
theorem tz_vz {x : ByteArray} (h : Okz x) : tz (vz x) = x:=by
  obtain ⟨h1,h2,h3,_⟩:=okz_parts h
  apply ByteArray.ext
  apply Array.toList_inj.1
  show (sgText (vz x).natAbs (decide (vz x < 0))) = x.data.toList
  unfold vz
  generalize x.data.toList = l at *
  rcases noMinus_cases l with ⟨t,ht,hn⟩ | ⟨hh,hn⟩
  · rw [hn] at h1 h2 h3
    have hz : intM l ≠ 0:=by
      unfold intM
      rw [hn]
      cases t with
      | nil=>simp at h1
      | cons d t =>
        have hdd:=h2 d (by simp)
        simp only [isDig,decide_eq_true_eq] at hdd
        have hne : d ≠ 48:=by
          intro e
          have:=h3 (by rw [e];rfl)
          rw [ht] at this
          simp at this
        have h49 : 49 <= d.toNat:=by
          have : d.toNat ≠ 48:=fun e=>hne (UInt8.toNat_inj.1 (by rw [e];rfl))
          omega
        have:=valL_pos (d :: t) d t rfl h49
        omega
    have hs : intS l = true:=by unfold intS;rw [ht] at hz ⊢;simp [hz]
    have hd:=dec_val t h1 h2 (fun e=>by have:=h3 e;rw [ht] at this;simp at this)
    have hm : intM l = valL t:=by unfold intM;rw [hn]
    rw [hs,hm]
    unfold sgn
    rw [if_pos rfl,decide_eq_true (by omega)]
    unfold sgText
    rw [if_pos rfl,show (-(valL t : Int)).natAbs = valL t by omega,hd,ht]
  · rw [hn] at h1 h2 h3
    have hs : intS l = false:=by unfold intS;rw [show (l.head? == some 45) = false by simpa using hh];rfl
    have hd:=dec_val l h1 h2 h3
    have hm : intM l = valL l:=by unfold intM;rw [hn]
    rw [hs,hm]
    unfold sgn
    rw [if_neg (by decide),decide_eq_false (by omega)]
    unfold sgText
    rw [if_neg (by decide),show ((valL l : Nat) : Int).natAbs = valL l by omega,hd]
theorem nD_fit {n : Nat} (h : n < 10 ^ 120) : nDigits n <= 120:=nD_le 119 n h
theorem noMinus_neg (l : List UInt8) : noMinus (45 :: l) = l:=by
  rcases noMinus_cases (45 :: l) with ⟨t,ht,hn⟩ | ⟨hh,_⟩
  · rw [hn];exact (List.cons.inj ht).2.symm
  · exact absurd rfl hh
theorem tz_list (z : Int) : (tz z).data.toList = sgText z.natAbs (decide (z < 0)):=rfl
theorem tz_neg {z : Int} (h : z < 0) : (tz z).data.toList = 45 :: decDigits z.natAbs:=by rw [tz_list,decide_eq_true h];rfl
theorem tz_pos {z : Int} (h : 0 <= z) : (tz z).data.toList = decDigits z.natAbs:=by rw [tz_list,decide_eq_false (by omega)];rfl
theorem ckL_neg (n : Nat) (h0 : n ≠ 0) (h : nDigits n <= 120) : ckL (45 :: decDigits n) = 0:=by
  have hd:=decDigits_dig n
  unfold ckL
  rw [noMinus_neg,if_neg,if_neg,if_neg]
  · rw [decDigits_length];omega
  · rintro ⟨h1,_⟩
    rcases dec_head n n (Nat.le_refl _) with h3 | h3
    · exact h3 h1
    · exact h0 h3
  · have : areDig (decDigits n) = true:=by
      unfold areDig
      rw [List.all_eq_true.2 hd,Bool.true_and]
      cases hl : decDigits n with
      | nil=>have:=decDigits_length n;rw [hl] at this;have:=nD_pos n;simp at *;omega
      | cons c l=>rfl
    rw [this];decide
theorem okz_tz {z : Int} (h : z.natAbs < 10 ^ 120) : Okz (tz z):=by
  unfold Okz
  by_cases hz : z < 0
  · rw [tz_neg hz];exact ckL_neg _ (by omega) (nD_fit h)
  · rw [tz_pos (by omega)];exact ckL_dec _ (nD_fit h)
theorem vz_abs (x : ByteArray) : (vz x).natAbs = intM x.data.toList:=by unfold vz sgn;split <;> omega
theorem vz_sign (x : ByteArray) : decide (vz x < 0) = intS x.data.toList:=by
  unfold vz sgn
  cases h : intS x.data.toList
  · simp;
  · have:=intS_pos h
    simp;omega
end
section
open Go.RowKit
open Go.Lib (decDigits nDigits decDigits_length)
def resZ (z : Int) : Value:=.tuple #[.string (tz z),.int .i64 0]
theorem sgn_f (n : Nat) : sgn n false = n:=rfl
theorem sgn_t (n : Nat) : sgn n true = -(n : Int):=rfl
end
section
open Go.RowKit
open Go.Lib (decDigits nDigits decDigits_length)
end
section
open Go.RowKit
open Go.Lib (decDigits nDigits decDigits_length)
def resI (z : Int) : Value:=if z.natAbs < 10 ^ 120 then resZ z else errT 4
end
section
open Go.RowKit
open Go.Lib (decDigits nDigits decDigits_length)
end
section
open Go.RowKit
theorem refDigit_any (c : Nat) (w : World) : Calls Tryz.prog 121 #[.int .u8 c] w fun e w'=>e = .returned (.bool (decide (48 <= c/\c <= 57)))/\w' = w:=by
  by_cases h1 : 48 <= c
  · have d1 : decide ((48 : Int) <= (c : Int)) = true:=by simp;omega
    by_cases h2 : c <= 57
    · have d2 : decide ((c : Int) <= 57) = true:=by simp;omega
      rw [decide_eq_true (show 48 <= c/\c <= 57 from ⟨h1,h2⟩)]
      clear h1 h2
      go_enter Tryz.func121,Tryz.ntmps121
      go_wp2
      go_ret
      exact ⟨rfl,rfl⟩
    · have d2 : decide ((c : Int) <= 57) = false:=by simp;omega
      rw [decide_eq_false (show ¬ (48 <= c/\c <= 57) from fun h=>h2 h.2)]
      clear h1 h2
      go_enter Tryz.func121,Tryz.ntmps121
      go_wp2
      go_ret
      exact ⟨rfl,rfl⟩
  · have d1 : decide ((48 : Int) <= (c : Int)) = false:=by simp;omega
    rw [decide_eq_false (show ¬ (48 <= c/\c <= 57) from fun h=>h1 h.1)]
    clear h1
    go_enter Tryz.func121,Tryz.ntmps121
    go_wp2
    go_ret
    exact ⟨rfl,rfl⟩
theorem refWhen_any (b : Bool) (e : Int) (w : World) : Calls Tryz.prog 65 #[.bool b,.int .i64 e] w fun x w'=>x = .returned (.int .i64 (if b then e else 0))/\w' = w:=by
  cases b
  · go_enter Tryz.func65,Tryz.ntmps65
    go_wp2
    go_ret
    exact ⟨rfl,rfl⟩
  · go_enter Tryz.func65,Tryz.ntmps65
    go_wp2
    go_ret
    exact ⟨rfl,rfl⟩
end
section
open Go.RowKit
theorem dec_isDig (c : UInt8) : decide (48 <= c.toNat/\c.toNat <= 57) = isDig c:=rfl
theorem all_of {D : ByteArray} (h : ∀ k (h : k < D.size),isDig (D[k]'h) = true) : D.data.toList.all isDig = true:=by
  rw [List.all_eq_true]
  intro c hc
  obtain ⟨i,hi,rfl⟩:=List.getElem_of_mem hc
  have:=h i (by simpa using hi)
  simpa [ByteArray.getElem_eq_getElem_data] using this
theorem not_all {D : ByteArray} {k : Nat} (h : k < D.size) (hd : isDig (D[k]'h) = false) : D.data.toList.all isDig = false:=by
  rw [List.all_eq_false]
  exact ⟨D[k]'h,by rw [show D[k]'h = D.data.toList[k]'(by simpa using h) by simp;rfl];exact List.getElem_mem _,by rw [hd];decide⟩
set_option maxHeartbeats 1000000 in
theorem form_f (s : ByteArray) (n : Nat) (hsz : s.size = n) (h0 : 0 < n) (hm : ∀ h : 0 < s.size,(s[0]'h).toNat ≠ 45) (hz : ∀ h : 0 < s.size,1 < n->(s[0]'h).toNat ≠ 48) (hs : (s.toList == [45,48]) = false) (hmax : n <= 9223372036854775807) (w : World) :
    Calls Tryz.prog 64 #[.string s] w fun e w'=>e = .returned (.bool (s.data.toList.all isDig))/\w' = w:=by
  have hp0 : 0 < s.size:=by omega
  obtain ⟨c0,hc0⟩ : ∃ c,(s[0]'hp0).toNat = c:=⟨_,rfl⟩
  have b1 : ((c0 : Int) == 45) = false:=by have:=hm hp0;simp;omega
  have b2 : 1 < n->((c0 : Int) == 48) = false:=fun h=>by have:=hz hp0 h;simp;omega
  have i1 : decide ((0 : Int) < (n : Int)) = true:=by simp;omega
  have i2 : ((n : Int) == 0) = false:=by simp;omega
  clear hm hz
  by_cases hn1 : 1 < n
  · have i3 : decide ((1 : Int) < (n : Int)) = true:=by simp;omega
    have b3:=b2 hn1
    clear b2
    go_enter Tryz.func64,Tryz.ntmps64
    go_wp2
    go_loopw [4] (fun i wr=>∃ k : Nat,k <= n/\i = .int .i64 k/\wr = w/\∀ j (h : j < (s).size),j < k->isDig ((s)[j]'h) = true) (fun i _=>n - (intOf i).toNat)
    case atStart=>exact ⟨0,by omega,rfl,rfl,fun j _ hj=>by omega⟩
    case round =>
      obtain ⟨k,hk,rfl,rfl,hall⟩:=hrel
      have Hall:=Lib.hid hall;clear hall
      by_cases hp : k < n
      · have hp2 : k < (s).size:=by rw [hsz];exact hp
        obtain ⟨c,hc⟩ : ∃ c,((s)[k]'hp2).toNat = c:=⟨_,rfl⟩
        have hlt : c < 256:=by rw [<- hc];exact UInt8.toNat_lt _
        by_cases hdg : isDig ((s)[k]'hp2) = true
        · have Cd:=Lib.hid (fun W=>show Calls Tryz.prog 121 #[.int .u8 c] W fun e w'=>e = .returned (.bool true)/\w' = W by
            have:=refDigit_any c W
            rwa [<- hc,dec_isDig,hdg,hc] at this)
          have Hdg:=Lib.hid hdg;clear hdg
          go_wp2_with (go_at_call 121;(with_reducible refine (Cd.out _).mono ?_);rintro e w1 ⟨rfl,rfl⟩)
          go_roundw
          case rel=>exact ⟨k + 1,by omega,by go_num,by first | rfl | trivial,fun j h hj=>by
            by_cases h2 : j < k
            · exact Hall.out j h h2
            · obtain rfl : j = k:=by omega
              exact Hdg.out⟩
          case measure=>simp [intOf];omega
        · have hd0 : isDig ((s)[k]'hp2) = false:=by simpa using hdg
          have Cd:=Lib.hid (fun W=>show Calls Tryz.prog 121 #[.int .u8 c] W fun e w'=>e = .returned (.bool false)/\w' = W by
            have:=refDigit_any c W
            rwa [<- hc,dec_isDig,hd0,hc] at this)
          have Hf:=Lib.hid (not_all hp2 hd0);clear hdg hd0
          go_wp2_with (go_at_call 121;(with_reducible refine (Cd.out _).mono ?_);rintro e w1 ⟨rfl,rfl⟩)
          go_ret
          exact ⟨by rw [show s.data.toList.all isDig = _ from Hf.out];rfl,rfl⟩
      · obtain rfl : k = n:=by omega
        have Ht:=Lib.hid (all_of (D:=s) (fun j h=>Hall.out j h (by rw [hsz] at h;exact h)))
        go_wp2
        go_ret
        exact ⟨by rw [show s.data.toList.all isDig = _ from Ht.out];rfl,rfl⟩
  · have i3 : decide ((1 : Int) < (n : Int)) = false:=by simp;omega
    clear b2
    go_enter Tryz.func64,Tryz.ntmps64
    go_wp2
    go_loopw [4] (fun i wr=>∃ k : Nat,k <= n/\i = .int .i64 k/\wr = w/\∀ j (h : j < (s).size),j < k->isDig ((s)[j]'h) = true) (fun i _=>n - (intOf i).toNat)
    case atStart=>exact ⟨0,by omega,rfl,rfl,fun j _ hj=>by omega⟩
    case round =>
      obtain ⟨k,hk,rfl,rfl,hall⟩:=hrel
      have Hall:=Lib.hid hall;clear hall
      by_cases hp : k < n
      · have hp2 : k < (s).size:=by rw [hsz];exact hp
        obtain ⟨c,hc⟩ : ∃ c,((s)[k]'hp2).toNat = c:=⟨_,rfl⟩
        have hlt : c < 256:=by rw [<- hc];exact UInt8.toNat_lt _
        by_cases hdg : isDig ((s)[k]'hp2) = true
        · have Cd:=Lib.hid (fun W=>show Calls Tryz.prog 121 #[.int .u8 c] W fun e w'=>e = .returned (.bool true)/\w' = W by
            have:=refDigit_any c W
            rwa [<- hc,dec_isDig,hdg,hc] at this)
          have Hdg:=Lib.hid hdg;clear hdg
          go_wp2_with (go_at_call 121;(with_reducible refine (Cd.out _).mono ?_);rintro e w1 ⟨rfl,rfl⟩)
          go_roundw
          case rel=>exact ⟨k + 1,by omega,by go_num,by first | rfl | trivial,fun j h hj=>by
            by_cases h2 : j < k
            · exact Hall.out j h h2
            · obtain rfl : j = k:=by omega
              exact Hdg.out⟩
          case measure=>simp [intOf];omega
        · have hd0 : isDig ((s)[k]'hp2) = false:=by simpa using hdg
          have Cd:=Lib.hid (fun W=>show Calls Tryz.prog 121 #[.int .u8 c] W fun e w'=>e = .returned (.bool false)/\w' = W by
            have:=refDigit_any c W
            rwa [<- hc,dec_isDig,hd0,hc] at this)
          have Hf:=Lib.hid (not_all hp2 hd0);clear hdg hd0
          go_wp2_with (go_at_call 121;(with_reducible refine (Cd.out _).mono ?_);rintro e w1 ⟨rfl,rfl⟩)
          go_ret
          exact ⟨by rw [show s.data.toList.all isDig = _ from Hf.out];rfl,rfl⟩
      · obtain rfl : k = n:=by omega
        have Ht:=Lib.hid (all_of (D:=s) (fun j h=>Hall.out j h (by rw [hsz] at h;exact h)))
        go_wp2
        go_ret
        exact ⟨by rw [show s.data.toList.all isDig = _ from Ht.out];rfl,rfl⟩
theorem form_e0 (s : ByteArray) (hsz : s.size = 0) (w : World) : Calls Tryz.prog 64 #[.string s] w fun e w'=>e = .returned (.bool false)/\w' = w:=by
  have hs : (s.toList == [45,48]) = false:=by
    have : s.toList.length = 0:=by rw [toList_data'];simpa using hsz
    cases h : s.toList with
    | nil=>rfl
    | cons a t=>rw [h] at this;simp at this
  go_enter Tryz.func64,Tryz.ntmps64
  go_wp2
  go_ret
  exact ⟨rfl,rfl⟩
theorem form_e1 (s : ByteArray) (n : Nat) (hsz : s.size = n) (h1 : 1 < n) (hp0 : 0 < s.size) (h48 : (s[0]'hp0).toNat = 48) (hs : (s.toList == [45,48]) = false) (hmax : n <= 9223372036854775807) (w : World) : Calls Tryz.prog 64 #[.string s] w fun e w'=>e = .returned (.bool false)/\w' = w:=by
  have b1 : ((48 : Int) == 45) = false:=by decide
  have i1 : decide ((0 : Int) < (n : Int)) = true:=by simp;omega
  have i2 : ((n : Int) == 0) = false:=by simp;omega
  have i3 : decide ((1 : Int) < (n : Int)) = true:=by simp;omega
  go_enter Tryz.func64,Tryz.ntmps64
  go_wp2
  go_ret
  exact ⟨rfl,rfl⟩
theorem form_m0 (s : ByteArray) (m : Nat) (hss : s.size = m + 1) (hsz : (s.extract 1 s.size).size = m) (hp0 : 0 < s.size) (h45 : (s[0]'hp0).toNat = 45) (hmax : s.size <= 9223372036854775807) (hm : m = 0) (w : World) : Calls Tryz.prog 64 #[.string s] w fun e w'=>e = .returned (.bool false)/\w' = w:=by
  have h45' : s[0]'hp0 = 45:=UInt8.toNat_inj.1 (by rw [h45];rfl)
  have h1s : 1 <= s.size:=by omega
  have i1 : decide ((0 : Int) < (s.size : Int)) = true:=by simp;omega
  have hmm : m <= 9223372036854775806:=by omega
  have i2 : ((m : Int) == 0) = true:=by simp;omega
  clear hss hm
  go_enter Tryz.func64,Tryz.ntmps64
  go_wp2
  go_ret
  exact ⟨rfl,rfl⟩
theorem form_m1 (s : ByteArray) (m : Nat) (hss : s.size = m + 1) (hsz : (s.extract 1 s.size).size = m) (hp0 : 0 < s.size) (h45 : (s[0]'hp0).toNat = 45) (hmax : s.size <= 9223372036854775807) (hm : 0 < m) (hs : (s.toList == [45,48]) = true) (w : World) : Calls Tryz.prog 64 #[.string s] w fun e w'=>e = .returned (.bool false)/\w' = w:=by
  have h45' : s[0]'hp0 = 45:=UInt8.toNat_inj.1 (by rw [h45];rfl)
  have h1s : 1 <= s.size:=by omega
  have i1 : decide ((0 : Int) < (s.size : Int)) = true:=by simp;omega
  have hmm : m <= 9223372036854775806:=by omega
  have i2 : ((m : Int) == 0) = false:=by simp;omega
  clear hss
  go_enter Tryz.func64,Tryz.ntmps64
  go_wp2
  go_ret
  exact ⟨rfl,rfl⟩
theorem form_m2 (s : ByteArray) (m : Nat) (hss : s.size = m + 1) (hsz : (s.extract 1 s.size).size = m) (hp0 : 0 < s.size) (h45 : (s[0]'hp0).toNat = 45) (hmax : s.size <= 9223372036854775807) (hm : 1 < m) (hq : 0 < (s.extract 1 s.size).size) (h48 : ((s.extract 1 s.size)[0]'hq).toNat = 48) (hs : (s.toList == [45,48]) = false) (w : World) : Calls Tryz.prog 64 #[.string s] w fun e w'=>e = .returned (.bool false)/\w' = w:=by
  have h45' : s[0]'hp0 = 45:=UInt8.toNat_inj.1 (by rw [h45];rfl)
  have h1s : 1 <= s.size:=by omega
  have i1 : decide ((0 : Int) < (s.size : Int)) = true:=by simp;omega
  have hmm : m <= 9223372036854775806:=by omega
  have i2 : ((m : Int) == 0) = false:=by simp;omega
  have i3 : decide ((1 : Int) < (m : Int)) = true:=by simp;omega
  clear hss
  go_enter Tryz.func64,Tryz.ntmps64
  go_wp2
  go_ret
  exact ⟨rfl,rfl⟩
set_option maxHeartbeats 1000000 in
theorem form_m3 (s : ByteArray) (m : Nat) (hss : s.size = m + 1) (hsz : (s.extract 1 s.size).size = m) (hp0 : 0 < s.size) (h45 : (s[0]'hp0).toNat = 45) (hmax : s.size <= 9223372036854775807) (hm : 1 < m) (hq : 0 < (s.extract 1 s.size).size) (h48 : ((s.extract 1 s.size)[0]'hq).toNat ≠ 48) (hs : (s.toList == [45,48]) = false) (w : World) :
    Calls Tryz.prog 64 #[.string s] w fun e w'=>e = .returned (.bool ((s.extract 1 s.size).data.toList.all isDig))/\w' = w:=by
  have h45' : s[0]'hp0 = 45:=UInt8.toNat_inj.1 (by rw [h45];rfl)
  have h1s : 1 <= s.size:=by omega
  have i1 : decide ((0 : Int) < (s.size : Int)) = true:=by simp;omega
  have hmm : m <= 9223372036854775806:=by omega
  have i2 : ((m : Int) == 0) = false:=by simp;omega
  have i3 : decide ((1 : Int) < (m : Int)) = true:=by simp;omega
  obtain ⟨c0,hc0⟩ : ∃ c,((s.extract 1 s.size)[0]'hq).toNat = c:=⟨_,rfl⟩
  have b3 : ((c0 : Int) == 48) = false:=by simp;omega
  clear hss
  go_enter Tryz.func64,Tryz.ntmps64
  go_wp2
  go_loopw [4] (fun i wr=>∃ k : Nat,k <= m/\i = .int .i64 k/\wr = w/\∀ j (h : j < (s.extract 1 s.size).size),j < k->isDig ((s.extract 1 s.size)[j]'h) = true) (fun i _=>m - (intOf i).toNat)
  case atStart=>exact ⟨0,by omega,rfl,rfl,fun j _ hj=>by omega⟩
  case round =>
    obtain ⟨k,hk,rfl,rfl,hall⟩:=hrel
    have Hall:=Lib.hid hall;clear hall
    by_cases hp : k < m
    · have hp2 : k < (s.extract 1 s.size).size:=by rw [hsz];exact hp
      obtain ⟨c,hc⟩ : ∃ c,((s.extract 1 s.size)[k]'hp2).toNat = c:=⟨_,rfl⟩
      have hlt : c < 256:=by rw [<- hc];exact UInt8.toNat_lt _
      by_cases hdg : isDig ((s.extract 1 s.size)[k]'hp2) = true
      · have Cd:=Lib.hid (fun W=>show Calls Tryz.prog 121 #[.int .u8 c] W fun e w'=>e = .returned (.bool true)/\w' = W by
          have:=refDigit_any c W
          rwa [<- hc,dec_isDig,hdg,hc] at this)
        have Hdg:=Lib.hid hdg;clear hdg
        go_wp2_with (go_at_call 121;(with_reducible refine (Cd.out _).mono ?_);rintro e w1 ⟨rfl,rfl⟩)
        go_roundw
        case rel=>exact ⟨k + 1,by omega,by go_num,by first | rfl | trivial,fun j h hj=>by
          by_cases h2 : j < k
          · exact Hall.out j h h2
          · obtain rfl : j = k:=by omega
            exact Hdg.out⟩
        case measure=>simp [intOf];omega
      · have hd0 : isDig ((s.extract 1 s.size)[k]'hp2) = false:=by simpa using hdg
        have Cd:=Lib.hid (fun W=>show Calls Tryz.prog 121 #[.int .u8 c] W fun e w'=>e = .returned (.bool false)/\w' = W by
          have:=refDigit_any c W
          rwa [<- hc,dec_isDig,hd0,hc] at this)
        have Hf:=Lib.hid (not_all hp2 hd0);clear hdg hd0
        go_wp2_with (go_at_call 121;(with_reducible refine (Cd.out _).mono ?_);rintro e w1 ⟨rfl,rfl⟩)
        go_ret
        exact ⟨by rw [show (s.extract 1 s.size).data.toList.all isDig = _ from Hf.out];rfl,rfl⟩
    · obtain rfl : k = m:=by omega
      have Ht:=Lib.hid (all_of (D:=s.extract 1 s.size) (fun j h=>Hall.out j h (by rw [hsz] at h;exact h)))
      go_wp2
      go_ret
      exact ⟨by rw [show (s.extract 1 s.size).data.toList.all isDig = _ from Ht.out];rfl,rfl⟩
set_option maxHeartbeats 1000000 in
theorem form_m4 (s : ByteArray) (m : Nat) (hss : s.size = m + 1) (hsz : (s.extract 1 s.size).size = m) (hp0 : 0 < s.size) (h45 : (s[0]'hp0).toNat = 45) (hmax : s.size <= 9223372036854775807) (hm : m = 1) (hs : (s.toList == [45,48]) = false) (w : World) :
    Calls Tryz.prog 64 #[.string s] w fun e w'=>e = .returned (.bool ((s.extract 1 s.size).data.toList.all isDig))/\w' = w:=by
  have h45' : s[0]'hp0 = 45:=UInt8.toNat_inj.1 (by rw [h45];rfl)
  have h1s : 1 <= s.size:=by omega
  have i1 : decide ((0 : Int) < (s.size : Int)) = true:=by simp;omega
  have hmm : m <= 9223372036854775806:=by omega
  have i2 : ((m : Int) == 0) = false:=by simp;omega
  have i3 : decide ((1 : Int) < (m : Int)) = false:=by simp;omega
  clear hss
  go_enter Tryz.func64,Tryz.ntmps64
  go_wp2
  go_loopw [4] (fun i wr=>∃ k : Nat,k <= m/\i = .int .i64 k/\wr = w/\∀ j (h : j < (s.extract 1 s.size).size),j < k->isDig ((s.extract 1 s.size)[j]'h) = true) (fun i _=>m - (intOf i).toNat)
  case atStart=>exact ⟨0,by omega,rfl,rfl,fun j _ hj=>by omega⟩
  case round =>
    obtain ⟨k,hk,rfl,rfl,hall⟩:=hrel
    have Hall:=Lib.hid hall;clear hall
    by_cases hp : k < m
    · have hp2 : k < (s.extract 1 s.size).size:=by rw [hsz];exact hp
      obtain ⟨c,hc⟩ : ∃ c,((s.extract 1 s.size)[k]'hp2).toNat = c:=⟨_,rfl⟩
      have hlt : c < 256:=by rw [<- hc];exact UInt8.toNat_lt _
      by_cases hdg : isDig ((s.extract 1 s.size)[k]'hp2) = true
      · have Cd:=Lib.hid (fun W=>show Calls Tryz.prog 121 #[.int .u8 c] W fun e w'=>e = .returned (.bool true)/\w' = W by
          have:=refDigit_any c W
          rwa [<- hc,dec_isDig,hdg,hc] at this)
        have Hdg:=Lib.hid hdg;clear hdg
        go_wp2_with (go_at_call 121;(with_reducible refine (Cd.out _).mono ?_);rintro e w1 ⟨rfl,rfl⟩)
        go_roundw
        case rel=>exact ⟨k + 1,by omega,by go_num,by first | rfl | trivial,fun j h hj=>by
          by_cases h2 : j < k
          · exact Hall.out j h h2
          · obtain rfl : j = k:=by omega
            exact Hdg.out⟩
        case measure=>simp [intOf];omega
      · have hd0 : isDig ((s.extract 1 s.size)[k]'hp2) = false:=by simpa using hdg
        have Cd:=Lib.hid (fun W=>show Calls Tryz.prog 121 #[.int .u8 c] W fun e w'=>e = .returned (.bool false)/\w' = W by
          have:=refDigit_any c W
          rwa [<- hc,dec_isDig,hd0,hc] at this)
        have Hf:=Lib.hid (not_all hp2 hd0);clear hdg hd0
        go_wp2_with (go_at_call 121;(with_reducible refine (Cd.out _).mono ?_);rintro e w1 ⟨rfl,rfl⟩)
        go_ret
        exact ⟨by rw [show (s.extract 1 s.size).data.toList.all isDig = _ from Hf.out];rfl,rfl⟩
    · obtain rfl : k = m:=by omega
      have Ht:=Lib.hid (all_of (D:=s.extract 1 s.size) (fun j h=>Hall.out j h (by rw [hsz] at h;exact h)))
      go_wp2
      go_ret
      exact ⟨by rw [show (s.extract 1 s.size).data.toList.all isDig = _ from Ht.out];rfl,rfl⟩
end
section
open Go.RowKit
def formL (l : List UInt8) : Bool:=areDig (noMinus l) && !decide ((noMinus l).head? = some 48/\l ≠ [48])
theorem ckL_form (l : List UInt8) : ckL l = if formL l = false then 1 else if 120 < (noMinus l).length then 4 else 0:=by
  unfold ckL formL
  by_cases h1 : areDig (noMinus l) = false
  · rw [if_pos h1,if_pos (by rw [h1];rfl)]
  · have h1' : areDig (noMinus l) = true:=by simpa using h1
    rw [if_neg h1,h1']
    by_cases h2 : (noMinus l).head? = some 48/\l ≠ [48]
    · rw [if_pos h2,decide_eq_true h2,if_pos (by rfl)]
    · rw [if_neg h2,decide_eq_false h2];rfl
theorem at0 {s : ByteArray} (h : 0 < s.size) : ∃ t,s.data.toList = s[0]'h :: t:=by
  cases hl : s.data.toList with
  | nil =>
    have h2 : s.data.toList.length = 0:=by rw [hl];rfl
    have h3 : s.data.toList.length = s.size:=by simp
    omega
  | cons c t =>
    refine ⟨t,?_⟩
    have : s.data.toList[0]'(by rw [hl];simp) = c:=by simp [hl]
    rw [show s[0]'h = s.data.toList[0]'(by rw [hl];simp) by simp;rfl,this]
theorem noMinus_cons (t : List UInt8) : noMinus (45 :: t) = t:=by
  unfold noMinus Lib.trimPrefix
  rw [if_pos (by simp [Lib.hasPrefix])];rfl
theorem noMinus_ne {c : UInt8} (t : List UInt8) (h : c ≠ 45) : noMinus (c :: t) = c :: t:=by
  unfold noMinus Lib.trimPrefix
  rw [if_neg]
  intro hp
  have h2 : 45 = c:=by simpa [Lib.hasPrefix] using hp
  exact h h2.symm
theorem u8_ne {c : UInt8} {n : Nat} (hn : n < 256) (h : c ≠ UInt8.ofNat n) : c.toNat ≠ n:=fun e=>h (UInt8.toNat_inj.1 (by rw [e];simp;omega))
theorem form_any (s : ByteArray) (hmax : s.size <= 9223372036854775807) (w : World) : Calls Tryz.prog 64 #[.string s] w fun e w'=>e = .returned (.bool (formL s.data.toList))/\w' = w:=by
  by_cases h0 : s.size = 0
  · have hl : s.data.toList = []:=by
      have : s.data.toList.length = 0:=by simpa using h0
      exact List.eq_nil_of_length_eq_zero this
    rw [hl,show formL [] = false from rfl]
    exact form_e0 s h0 w
  have hp0 : 0 < s.size:=by omega
  obtain ⟨t,ht⟩:=at0 hp0
  have hlen : s.size = t.length + 1:=by have:=congrArg List.length ht;simpa using this
  obtain ⟨c,hc⟩ : ∃ c,s[0]'hp0 = c:=⟨_,rfl⟩
  rw [hc] at ht
  have hst : s.toList = c :: t:=by rw [toList_data',ht]
  by_cases h45 : c = 45
  · subst h45
    have hx : (s.extract 1 s.size).data.toList = t:=by simp [ht,hlen]
    have hsz : (s.extract 1 s.size).size = t.length:=by
      have:=congrArg List.length hx;simpa using this
    have hcn : (s[0]'hp0).toNat = 45:=by rw [hc];rfl
    have hf : formL s.data.toList = (t.all isDig && !t.isEmpty && !decide (t.head? = some 48)):=by
      unfold formL areDig
      rw [ht,noMinus_cons]
      simp
    rw [hf]
    cases t with
    | nil=>exact form_m0 s 0 hlen hsz hp0 hcn hmax rfl w
    | cons d t =>
      by_cases hz : d = 48/\t = []
      · obtain ⟨rfl,rfl⟩:=hz
        rw [show ((([48] : List UInt8).all isDig && !([48] : List UInt8).isEmpty && !decide (([48] : List UInt8).head? = some 48)) = false) by decide]
        exact form_m1 s 1 hlen hsz hp0 hcn hmax (by omega) (by rw [hst];rfl) w
      · have hs : (s.toList == [45,48]) = false:=by
          rw [hst,beq_eq_false_iff_ne]
          intro e
          simp at e
          exact hz e
        have hq : 0 < (s.extract 1 s.size).size:=by rw [hsz];simp
        obtain ⟨t2,ht2⟩:=at0 hq
        have hd : (s.extract 1 s.size)[0]'hq = d:=by rw [hx] at ht2;exact (List.cons.inj ht2).1.symm
        by_cases h48 : d = 48
        · rw [show ((d :: t).all isDig && !(d :: t).isEmpty && !decide ((d :: t).head? = some 48)) = false by simp [h48]]
          exact form_m2 s _ hlen hsz hp0 hcn hmax (by
            cases t with
            | nil=>exact absurd ⟨h48,rfl⟩ hz
            | cons _ _=>simp) hq (by rw [hd,h48];rfl) hs w
        · have e2 : ((d :: t).all isDig && !(d :: t).isEmpty && !decide ((d :: t).head? = some 48)) = (s.extract 1 s.size).data.toList.all isDig:=by
            rw [hx];simp [h48]
          rw [e2]
          cases t with
          | nil=>exact form_m4 s _ hlen hsz hp0 hcn hmax rfl hs w
          | cons _ _=>exact form_m3 s _ hlen hsz hp0 hcn hmax (by simp) hq (by rw [hd];exact u8_ne (by omega) h48) hs w
  · have hnm : noMinus s.data.toList = s.data.toList:=by rw [ht];exact noMinus_ne t h45
    have hs : (s.toList == [45,48]) = false:=by
      rw [hst,beq_eq_false_iff_ne]
      intro e
      exact h45 (List.cons.inj e).1
    by_cases hz : c = 48/\t ≠ []
    · have hn1 : 1 < s.size:=by
        cases t with
        | nil=>exact absurd rfl hz.2
        | cons _ _=>rw [hlen];simp
      rw [show formL s.data.toList = false by
        unfold formL
        rw [hnm,ht,hz.1,decide_eq_true (show ((48 : UInt8) :: t).head? = some 48/\(48 : UInt8) :: t ≠ [48] from ⟨rfl,fun e=>hz.2 (List.cons.inj e).2⟩)]
        simp]
      exact form_e1 s _ rfl hn1 hp0 (by rw [hc,hz.1];rfl) hs hmax w
    · have e2 : formL s.data.toList = s.data.toList.all isDig:=by
        unfold formL areDig
        rw [hnm,ht,decide_eq_false (show ¬ ((c :: t).head? = some 48/\c :: t ≠ [48]) from fun e=>hz ⟨by simpa using e.1,fun e3=>e.2 (by rw [e3];simpa using e.1)⟩)]
        simp
      rw [e2]
      exact form_f s _ rfl hp0 (fun _=>by rw [hc];exact u8_ne (by omega) h45) (fun _ h1=>by
        rw [hc]
        exact u8_ne (by omega) (fun e=>hz ⟨e,fun e3=>by rw [e3] at hlen;simp at hlen;omega⟩)) hs hmax w
end
section
open Go.RowKit
theorem refCheck_f (s : ByteArray) (F : ∀ w,Calls Tryz.prog 64 #[.string s] w fun e w'=>e = .returned (.bool false)/\w' = w) (w : World) : Calls Tryz.prog 13 #[.string s] w fun e w'=>e = .returned (.int .i64 1)/\w' = w:=by
  have Cf:=Lib.hid F;clear F
  go_enter Tryz.func13,Tryz.ntmps13
  go_wp2_with (go_at_call 64;(with_reducible refine (Cf.out _).mono ?_);rintro e w1 ⟨rfl,rfl⟩)
  go_ret
  exact ⟨rfl,rfl⟩
theorem refCheck_m (s : ByteArray) (n : Nat) (b : Bool) (hsz : s.size = n + 1) (hmax : n <= 9223372036854775806) (hp0 : 0 < s.size) (h45 : (s[0]'hp0).toNat = 45) (hb : decide ((120 : Int) < (n : Int)) = b) (F : ∀ w,Calls Tryz.prog 64 #[.string s] w fun e w'=>e = .returned (.bool true)/\w' = w) (w : World) : Calls Tryz.prog 13 #[.string s] w fun e w'=>e = .returned (.int .i64 (if b then 4 else 0))/\w' = w:=by
  have Cf:=Lib.hid F
  have Cw:=Lib.hid (fun w=>refWhen_any b 4 w)
  clear F
  go_enter Tryz.func13,Tryz.ntmps13
  go_wp2_with (first
    | (go_at_call 64;(with_reducible refine (Cf.out _).mono ?_);rintro e w1 ⟨rfl,rfl⟩)
    | (go_at_call 65;(with_reducible refine (Cw.out _).mono ?_);rintro e w1 ⟨rfl,rfl⟩))
  all_goals go_ret
  all_goals exact ⟨rfl,rfl⟩
theorem refCheck_p (s : ByteArray) (n c : Nat) (b : Bool) (hsz : s.size = n) (hmax : n <= 9223372036854775806) (hp0 : 0 < s.size) (hc : (s[0]'hp0).toNat = c) (h45 : c ≠ 45) (hb : decide ((120 : Int) < (n : Int)) = b) (F : ∀ w,Calls Tryz.prog 64 #[.string s] w fun e w'=>e = .returned (.bool true)/\w' = w) (w : World) : Calls Tryz.prog 13 #[.string s] w fun e w'=>e = .returned (.int .i64 (if b then 4 else 0))/\w' = w:=by
  have Cf:=Lib.hid F
  have Cw:=Lib.hid (fun w=>refWhen_any b 4 w)
  have b1 : ((c : Int) == 45) = false:=by simp;omega
  clear F h45
  go_enter Tryz.func13,Tryz.ntmps13
  go_wp2_with (first
    | (go_at_call 64;(with_reducible refine (Cf.out _).mono ?_);rintro e w1 ⟨rfl,rfl⟩)
    | (go_at_call 65;(with_reducible refine (Cw.out _).mono ?_);rintro e w1 ⟨rfl,rfl⟩))
  all_goals go_ret
  all_goals exact ⟨rfl,rfl⟩
theorem refCheck_any (s : ByteArray) (hmax : s.size <= 9223372036854775806) (w : World) : Calls Tryz.prog 13 #[.string s] w fun e w'=>e = .returned (.int .i64 (ckL s.data.toList))/\w' = w:=by
  rw [ckL_form]
  by_cases hf : formL s.data.toList = false
  · rw [if_pos hf]
    exact refCheck_f s (fun w=>by have:=form_any s (by omega) w;rwa [hf] at this) w
  · have hf' : formL s.data.toList = true:=by simpa using hf
    have F : ∀ w,Calls Tryz.prog 64 #[.string s] w fun e w'=>e = .returned (.bool true)/\w' = w:=fun w=>by have:=form_any s (by omega) w;rwa [hf'] at this
    rw [if_neg hf]
    have hp0 : 0 < s.size:=by
      rcases Nat.eq_zero_or_pos s.size with h0 | h0
      · have hl : s.data.toList = []:=List.eq_nil_of_length_eq_zero (by simpa using h0)
        rw [hl] at hf';exact absurd hf' (by decide)
      · exact h0
    obtain ⟨t,ht⟩:=at0 hp0
    have hlen : s.size = t.length + 1:=by have:=congrArg List.length ht;simpa using this
    by_cases h45 : s[0]'hp0 = 45
    · have hn : (noMinus s.data.toList).length = t.length:=by rw [ht,h45,noMinus_cons]
      rw [hn]
      have c:=refCheck_m s t.length (decide (120 < t.length)) hlen (by omega) hp0 (by rw [h45];rfl) (by simp;omega) F w
      simpa only [decide_eq_true_eq] using c
    · have hn : (noMinus s.data.toList).length = s.size:=by rw [ht,noMinus_ne t h45,List.length_cons,hlen]
      rw [hn]
      have c:=refCheck_p s s.size _ (decide (120 < s.size)) rfl hmax hp0 rfl (u8_ne (by omega) h45) (by simp;omega) F w
      simpa only [decide_eq_true_eq] using c
end
end Go.Proofs.YtpbegoflpfdajaaGreatDoor
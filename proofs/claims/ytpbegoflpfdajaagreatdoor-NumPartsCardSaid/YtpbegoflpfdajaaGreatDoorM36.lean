/- WHAT IS PROVED: contracts of functions of the numbers package and laws for them, used by the last text of this claim. CONDITIONS: stated at each theorem. -/
import Derived.Test.YtpbegoflpfdajaaGreatDoorM35
namespace Go.Proofs.YtpbegoflpfdajaaGreatDoor
section
open Go.RowKit
theorem dec_isDig (c : UInt8) : decide (48 <= c.toNat/\c.toNat <= 57) = isDig c:=rfl
theorem all_of {D : ByteArray} (h : ∀ k (h : k < D.size),isDig (D[k]'h) = true) : D.data.toList.all isDig = true:=by
  rw [List.all_eq_true]
  intro c hc
  obtain ⟨i,hi,rfl⟩:=List.getElem_of_mem hc
  have:=h i (by simpa using hi)
  simpa [ByteArray.getElem_eq_getElem_data] using this
theorem not_all {D : ByteArray} {k : Nat} (h : k < D.size) (hd : isDig (D[k]'h) = false) : D.data.toList.all isDig = false:=by
  rw [List.all_eq_false]
  exact ⟨D[k]'h,by rw [show D[k]'h = D.data.toList[k]'(by simpa using h) by simp;rfl];exact List.getElem_mem _,by rw [hd];decide⟩
set_option maxHeartbeats 1000000 in
theorem form_f (s : ByteArray) (n : Nat) (hsz : s.size = n) (h0 : 0 < n) (hm : ∀ h : 0 < s.size,(s[0]'h).toNat ≠ 45) (hz : ∀ h : 0 < s.size,1 < n->(s[0]'h).toNat ≠ 48) (hs : (s.toList == [45,48]) = false) (hmax : n <= 9223372036854775807) (w : World) :
    Calls Tryz.prog 64 #[.string s] w fun e w'=>e = .returned (.bool (s.data.toList.all isDig))/\w' = w:=by
  have hp0 : 0 < s.size:=by omega
  obtain ⟨c0,hc0⟩ : ∃ c,(s[0]'hp0).toNat = c:=⟨_,rfl⟩
  have b1 : ((c0 : Int) == 45) = false:=by have:=hm hp0;simp;omega
  have b2 : 1 < n->((c0 : Int) == 48) = false:=fun h=>by have:=hz hp0 h;simp;omega
  have i1 : decide ((0 : Int) < (n : Int)) = true:=by simp;omega
  have i2 : ((n : Int) == 0) = false:=by simp;omega
  clear hm hz
  by_cases hn1 : 1 < n
  · have i3 : decide ((1 : Int) < (n : Int)) = true:=by simp;omega
    have b3:=b2 hn1
    clear b2
    go_enter Tryz.func64,Tryz.ntmps64
    go_wp2
    go_loopw [4] (fun i wr=>∃ k : Nat,k <= n/\i = .int .i64 k/\wr = w/\∀ j (h : j < (s).size),j < k->isDig ((s)[j]'h) = true) (fun i _=>n - (intOf i).toNat)
    case atStart=>exact ⟨0,by omega,rfl,rfl,fun j _ hj=>by omega⟩
    case round =>
      obtain ⟨k,hk,rfl,rfl,hall⟩:=hrel
      have Hall:=Lib.hid hall;clear hall
      by_cases hp : k < n
      · have hp2 : k < (s).size:=by rw [hsz];exact hp
        obtain ⟨c,hc⟩ : ∃ c,((s)[k]'hp2).toNat = c:=⟨_,rfl⟩
        have hlt : c < 256:=by rw [<- hc];exact UInt8.toNat_lt _
        by_cases hdg : isDig ((s)[k]'hp2) = true
        · have Cd:=Lib.hid (fun W=>show Calls Tryz.prog 121 #[.int .u8 c] W fun e w'=>e = .returned (.bool true)/\w' = W by
            have:=refDigit_any c W
            rwa [<- hc,dec_isDig,hdg,hc] at this)
          have Hdg:=Lib.hid hdg;clear hdg
          go_wp2_with (go_at_call 121;(with_reducible refine (Cd.out _).mono ?_);rintro e w1 ⟨rfl,rfl⟩)
          go_roundw
          case rel=>exact ⟨k + 1,by omega,by go_num,by first | rfl | trivial,fun j h hj=>by
            by_cases h2 : j < k
            · exact Hall.out j h h2
            · obtain rfl : j = k:=by omega
              exact Hdg.out⟩
          case measure=>simp [intOf];omega
        · have hd0 : isDig ((s)[k]'hp2) = false:=by simpa using hdg
          have Cd:=Lib.hid (fun W=>show Calls Tryz.prog 121 #[.int .u8 c] W fun e w'=>e = .returned (.bool false)/\w' = W by
            have:=refDigit_any c W
            rwa [<- hc,dec_isDig,hd0,hc] at this)
          have Hf:=Lib.hid (not_all hp2 hd0);clear hdg hd0
          go_wp2_with (go_at_call 121;(with_reducible refine (Cd.out _).mono ?_);rintro e w1 ⟨rfl,rfl⟩)
          go_ret
          exact ⟨by rw [show s.data.toList.all isDig = _ from Hf.out];rfl,rfl⟩
      · obtain rfl : k = n:=by omega
        have Ht:=Lib.hid (all_of (D:=s) (fun j h=>Hall.out j h (by rw [hsz] at h;exact h)))
        go_wp2
        go_ret
        exact ⟨by rw [show s.data.toList.all isDig = _ from Ht.out];rfl,rfl⟩
  · have i3 : decide ((1 : Int) < (n : Int)) = false:=by simp;omega
    clear b2
    go_enter Tryz.func64,Tryz.ntmps64
    go_wp2
    go_loopw [4] (fun i wr=>∃ k : Nat,k <= n/\i = .int .i64 k/\wr = w/\∀ j (h : j < (s).size),j < k->isDig ((s)[j]'h) = true) (fun i _=>n - (intOf i).toNat)
    case atStart=>exact ⟨0,by omega,rfl,rfl,fun j _ hj=>by omega⟩
    case round =>
      obtain ⟨k,hk,rfl,rfl,hall⟩:=hrel
      have Hall:=Lib.hid hall;clear hall
      by_cases hp : k < n
      · have hp2 : k < (s).size:=by rw [hsz];exact hp
        obtain ⟨c,hc⟩ : ∃ c,((s)[k]'hp2).toNat = c:=⟨_,rfl⟩
        have hlt : c < 256:=by rw [<- hc];exact UInt8.toNat_lt _
        by_cases hdg : isDig ((s)[k]'hp2) = true
        · have Cd:=Lib.hid (fun W=>show Calls Tryz.prog 121 #[.int .u8 c] W fun e w'=>e = .returned (.bool true)/\w' = W by
            have:=refDigit_any c W
            rwa [<- hc,dec_isDig,hdg,hc] at this)
          have Hdg:=Lib.hid hdg;clear hdg
          go_wp2_with (go_at_call 121;(with_reducible refine (Cd.out _).mono ?_);rintro e w1 ⟨rfl,rfl⟩)
          go_roundw
          case rel=>exact ⟨k + 1,by omega,by go_num,by first | rfl | trivial,fun j h hj=>by
            by_cases h2 : j < k
            · exact Hall.out j h h2
            · obtain rfl : j = k:=by omega
              exact Hdg.out⟩
          case measure=>simp [intOf];omega
        · have hd0 : isDig ((s)[k]'hp2) = false:=by simpa using hdg
          have Cd:=Lib.hid (fun W=>show Calls Tryz.prog 121 #[.int .u8 c] W fun e w'=>e = .returned (.bool false)/\w' = W by
            have:=refDigit_any c W
            rwa [<- hc,dec_isDig,hd0,hc] at this)
          have Hf:=Lib.hid (not_all hp2 hd0);clear hdg hd0
          go_wp2_with (go_at_call 121;(with_reducible refine (Cd.out _).mono ?_);rintro e w1 ⟨rfl,rfl⟩)
          go_ret
          exact ⟨by rw [show s.data.toList.all isDig = _ from Hf.out];rfl,rfl⟩
      · obtain rfl : k = n:=by omega
        have Ht:=Lib.hid (all_of (D:=s) (fun j h=>Hall.out j h (by rw [hsz] at h;exact h)))
        go_wp2
        go_ret
        exact ⟨by rw [show s.data.toList.all isDig = _ from Ht.out];rfl,rfl⟩
theorem form_e0 (s : ByteArray) (hsz : s.size = 0) (w : World) : Calls Tryz.prog 64 #[.string s] w fun e w'=>e = .returned (.bool false)/\w' = w:=by
  have hs : (s.toList == [45,48]) = false:=by
    have : s.toList.length = 0:=by rw [toList_data'];simpa using hsz
    cases h : s.toList with
    | nil=>rfl
    | cons a t=>rw [h] at this;simp at this
  go_enter Tryz.func64,Tryz.ntmps64
  go_wp2
  go_ret
  exact ⟨rfl,rfl⟩
theorem form_e1 (s : ByteArray) (n : Nat) (hsz : s.size = n) (h1 : 1 < n) (hp0 : 0 < s.size) (h48 : (s[0]'hp0).toNat = 48) (hs : (s.toList == [45,48]) = false) (hmax : n <= 9223372036854775807) (w : World) : Calls Tryz.prog 64 #[.string s] w fun e w'=>e = .returned (.bool false)/\w' = w:=by
  have b1 : ((48 : Int) == 45) = false:=by decide
  have i1 : decide ((0 : Int) < (n : Int)) = true:=by simp;omega
  have i2 : ((n : Int) == 0) = false:=by simp;omega
  have i3 : decide ((1 : Int) < (n : Int)) = true:=by simp;omega
  go_enter Tryz.func64,Tryz.ntmps64
  go_wp2
  go_ret
  exact ⟨rfl,rfl⟩
theorem form_m0 (s : ByteArray) (m : Nat) (hss : s.size = m + 1) (hsz : (s.extract 1 s.size).size = m) (hp0 : 0 < s.size) (h45 : (s[0]'hp0).toNat = 45) (hmax : s.size <= 9223372036854775807) (hm : m = 0) (w : World) : Calls Tryz.prog 64 #[.string s] w fun e w'=>e = .returned (.bool false)/\w' = w:=by
  have h45' : s[0]'hp0 = 45:=UInt8.toNat_inj.1 (by rw [h45];rfl)
  have h1s : 1 <= s.size:=by omega
  have i1 : decide ((0 : Int) < (s.size : Int)) = true:=by simp;omega
  have hmm : m <= 9223372036854775806:=by omega
  have i2 : ((m : Int) == 0) = true:=by simp;omega
  clear hss hm
  go_enter Tryz.func64,Tryz.ntmps64
  go_wp2
  go_ret
  exact ⟨rfl,rfl⟩
theorem form_m1 (s : ByteArray) (m : Nat) (hss : s.size = m + 1) (hsz : (s.extract 1 s.size).size = m) (hp0 : 0 < s.size) (h45 : (s[0]'hp0).toNat = 45) (hmax : s.size <= 9223372036854775807) (hm : 0 < m) (hs : (s.toList == [45,48]) = true) (w : World) : Calls Tryz.prog 64 #[.string s] w fun e w'=>e = .returned (.bool false)/\w' = w:=by
  have h45' : s[0]'hp0 = 45:=UInt8.toNat_inj.1 (by rw [h45];rfl)
  have h1s : 1 <= s.size:=by omega
  have i1 : decide ((0 : Int) < (s.size : Int)) = true:=by simp;omega
  have hmm : m <= 9223372036854775806:=by omega
  have i2 : ((m : Int) == 0) = false:=by simp;omega
  clear hss
  go_enter Tryz.func64,Tryz.ntmps64
  go_wp2
  go_ret
  exact ⟨rfl,rfl⟩
theorem form_m2 (s : ByteArray) (m : Nat) (hss : s.size = m + 1) (hsz : (s.extract 1 s.size).size = m) (hp0 : 0 < s.size) (h45 : (s[0]'hp0).toNat = 45) (hmax : s.size <= 9223372036854775807) (hm : 1 < m) (hq : 0 < (s.extract 1 s.size).size) (h48 : ((s.extract 1 s.size)[0]'hq).toNat = 48) (hs : (s.toList == [45,48]) = false) (w : World) : Calls Tryz.prog 64 #[.string s] w fun e w'=>e = .returned (.bool false)/\w' = w:=by
  have h45' : s[0]'hp0 = 45:=UInt8.toNat_inj.1 (by rw [h45];rfl)
  have h1s : 1 <= s.size:=by omega
  have i1 : decide ((0 : Int) < (s.size : Int)) = true:=by simp;omega
  have hmm : m <= 9223372036854775806:=by omega
  have i2 : ((m : Int) == 0) = false:=by simp;omega
  have i3 : decide ((1 : Int) < (m : Int)) = true:=by simp;omega
  clear hss
  go_enter Tryz.func64,Tryz.ntmps64
  go_wp2
  go_ret
  exact ⟨rfl,rfl⟩
set_option maxHeartbeats 1000000 in
theorem form_m3 (s : ByteArray) (m : Nat) (hss : s.size = m + 1) (hsz : (s.extract 1 s.size).size = m) (hp0 : 0 < s.size) (h45 : (s[0]'hp0).toNat = 45) (hmax : s.size <= 9223372036854775807) (hm : 1 < m) (hq : 0 < (s.extract 1 s.size).size) (h48 : ((s.extract 1 s.size)[0]'hq).toNat ≠ 48) (hs : (s.toList == [45,48]) = false) (w : World) :
    Calls Tryz.prog 64 #[.string s] w fun e w'=>e = .returned (.bool ((s.extract 1 s.size).data.toList.all isDig))/\w' = w:=by
  have h45' : s[0]'hp0 = 45:=UInt8.toNat_inj.1 (by rw [h45];rfl)
  have h1s : 1 <= s.size:=by omega
  have i1 : decide ((0 : Int) < (s.size : Int)) = true:=by simp;omega
  have hmm : m <= 9223372036854775806:=by omega
  have i2 : ((m : Int) == 0) = false:=by simp;omega
  have i3 : decide ((1 : Int) < (m : Int)) = true:=by simp;omega
  obtain ⟨c0,hc0⟩ : ∃ c,((s.extract 1 s.size)[0]'hq).toNat = c:=⟨_,rfl⟩
  have b3 : ((c0 : Int) == 48) = false:=by simp;omega
  clear hss
  go_enter Tryz.func64,Tryz.ntmps64
  go_wp2
  go_loopw [4] (fun i wr=>∃ k : Nat,k <= m/\i = .int .i64 k/\wr = w/\∀ j (h : j < (s.extract 1 s.size).size),j < k->isDig ((s.extract 1 s.size)[j]'h) = true) (fun i _=>m - (intOf i).toNat)
  case atStart=>exact ⟨0,by omega,rfl,rfl,fun j _ hj=>by omega⟩
  case round =>
    obtain ⟨k,hk,rfl,rfl,hall⟩:=hrel
    have Hall:=Lib.hid hall;clear hall
    by_cases hp : k < m
    · have hp2 : k < (s.extract 1 s.size).size:=by rw [hsz];exact hp
      obtain ⟨c,hc⟩ : ∃ c,((s.extract 1 s.size)[k]'hp2).toNat = c:=⟨_,rfl⟩
      have hlt : c < 256:=by rw [<- hc];exact UInt8.toNat_lt _
      by_cases hdg : isDig ((s.extract 1 s.size)[k]'hp2) = true
      · have Cd:=Lib.hid (fun W=>show Calls Tryz.prog 121 #[.int .u8 c] W fun e w'=>e = .returned (.bool true)/\w' = W by
          have:=refDigit_any c W
          rwa [<- hc,dec_isDig,hdg,hc] at this)
        have Hdg:=Lib.hid hdg;clear hdg
        go_wp2_with (go_at_call 121;(with_reducible refine (Cd.out _).mono ?_);rintro e w1 ⟨rfl,rfl⟩)
        go_roundw
        case rel=>exact ⟨k + 1,by omega,by go_num,by first | rfl | trivial,fun j h hj=>by
          by_cases h2 : j < k
          · exact Hall.out j h h2
          · obtain rfl : j = k:=by omega
            exact Hdg.out⟩
        case measure=>simp [intOf];omega
      · have hd0 : isDig ((s.extract 1 s.size)[k]'hp2) = false:=by simpa using hdg
        have Cd:=Lib.hid (fun W=>show Calls Tryz.prog 121 #[.int .u8 c] W fun e w'=>e = .returned (.bool false)/\w' = W by
          have:=refDigit_any c W
          rwa [<- hc,dec_isDig,hd0,hc] at this)
        have Hf:=Lib.hid (not_all hp2 hd0);clear hdg hd0
        go_wp2_with (go_at_call 121;(with_reducible refine (Cd.out _).mono ?_);rintro e w1 ⟨rfl,rfl⟩)
        go_ret
        exact ⟨by rw [show (s.extract 1 s.size).data.toList.all isDig = _ from Hf.out];rfl,rfl⟩
    · obtain rfl : k = m:=by omega
      have Ht:=Lib.hid (all_of (D:=s.extract 1 s.size) (fun j h=>Hall.out j h (by rw [hsz] at h;exact h)))
      go_wp2
      go_ret
      exact ⟨by rw [show (s.extract 1 s.size).data.toList.all isDig = _ from Ht.out];rfl,rfl⟩
set_option maxHeartbeats 1000000 in
theorem form_m4 (s : ByteArray) (m : Nat) (hss : s.size = m + 1) (hsz : (s.extract 1 s.size).size = m) (hp0 : 0 < s.size) (h45 : (s[0]'hp0).toNat = 45) (hmax : s.size <= 9223372036854775807) (hm : m = 1) (hs : (s.toList == [45,48]) = false) (w : World) :
    Calls Tryz.prog 64 #[.string s] w fun e w'=>e = .returned (.bool ((s.extract 1 s.size).data.toList.all isDig))/\w' = w:=by
  have h45' : s[0]'hp0 = 45:=UInt8.toNat_inj.1 (by rw [h45];rfl)
  have h1s : 1 <= s.size:=by omega
  have i1 : decide ((0 : Int) < (s.size : Int)) = true:=by simp;omega
  have hmm : m <= 9223372036854775806:=by omega
  have i2 : ((m : Int) == 0) = false:=by simp;omega
  have i3 : decide ((1 : Int) < (m : Int)) = false:=by simp;omega
  clear hss
  go_enter Tryz.func64,Tryz.ntmps64
  go_wp2
  go_loopw [4] (fun i wr=>∃ k : Nat,k <= m/\i = .int .i64 k/\wr = w/\∀ j (h : j < (s.extract 1 s.size).size),j < k->isDig ((s.extract 1 s.size)[j]'h) = true) (fun i _=>m - (intOf i).toNat)
  case atStart=>exact ⟨0,by omega,rfl,rfl,fun j _ hj=>by omega⟩
  case round =>
    obtain ⟨k,hk,rfl,rfl,hall⟩:=hrel
    have Hall:=Lib.hid hall;clear hall
    by_cases hp : k < m
    · have hp2 : k < (s.extract 1 s.size).size:=by rw [hsz];exact hp
      obtain ⟨c,hc⟩ : ∃ c,((s.extract 1 s.size)[k]'hp2).toNat = c:=⟨_,rfl⟩
      have hlt : c < 256:=by rw [<- hc];exact UInt8.toNat_lt _
      by_cases hdg : isDig ((s.extract 1 s.size)[k]'hp2) = true
      · have Cd:=Lib.hid (fun W=>show Calls Tryz.prog 121 #[.int .u8 c] W fun e w'=>e = .returned (.bool true)/\w' = W by
          have:=refDigit_any c W
          rwa [<- hc,dec_isDig,hdg,hc] at this)
        have Hdg:=Lib.hid hdg;clear hdg
        go_wp2_with (go_at_call 121;(with_reducible refine (Cd.out _).mono ?_);rintro e w1 ⟨rfl,rfl⟩)
        go_roundw
        case rel=>exact ⟨k + 1,by omega,by go_num,by first | rfl | trivial,fun j h hj=>by
          by_cases h2 : j < k
          · exact Hall.out j h h2
          · obtain rfl : j = k:=by omega
            exact Hdg.out⟩
        case measure=>simp [intOf];omega
      · have hd0 : isDig ((s.extract 1 s.size)[k]'hp2) = false:=by simpa using hdg
        have Cd:=Lib.hid (fun W=>show Calls Tryz.prog 121 #[.int .u8 c] W fun e w'=>e = .returned (.bool false)/\w' = W by
          have:=refDigit_any c W
          rwa [<- hc,dec_isDig,hd0,hc] at this)
        have Hf:=Lib.hid (not_all hp2 hd0);clear hdg hd0
        go_wp2_with (go_at_call 121;(with_reducible refine (Cd.out _).mono ?_);rintro e w1 ⟨rfl,rfl⟩)
        go_ret
        exact ⟨by rw [show (s.extract 1 s.size).data.toList.all isDig = _ from Hf.out];rfl,rfl⟩
    · obtain rfl : k = m:=by omega
      have Ht:=Lib.hid (all_of (D:=s.extract 1 s.size) (fun j h=>Hall.out j h (by rw [hsz] at h;exact h)))
      go_wp2
      go_ret
      exact ⟨by rw [show (s.extract 1 s.size).data.toList.all isDig = _ from Ht.out];rfl,rfl⟩
end
section
open Go.RowKit
def formL (l : List UInt8) : Bool:=areDig (noMinus l) && !decide ((noMinus l).head? = some 48/\l ≠ [48])
theorem ckL_form (l : List UInt8) : ckL l = if formL l = false then 1 else if 120 < (noMinus l).length then 4 else 0:=by
  unfold ckL formL
  by_cases h1 : areDig (noMinus l) = false
  · rw [if_pos h1,if_pos (by rw [h1];rfl)]
  · have h1' : areDig (noMinus l) = true:=by simpa using h1
    rw [if_neg h1,h1']
    by_cases h2 : (noMinus l).head? = some 48/\l ≠ [48]
    · rw [if_pos h2,decide_eq_true h2,if_pos (by rfl)]
    · rw [if_neg h2,decide_eq_false h2];rfl
theorem at0 {s : ByteArray} (h : 0 < s.size) : ∃ t,s.data.toList = s[0]'h :: t:=by
  cases hl : s.data.toList with
  | nil =>
    have h2 : s.data.toList.length = 0:=by rw [hl];rfl
    have h3 : s.data.toList.length = s.size:=by simp
    omega
  | cons c t =>
    refine ⟨t,?_⟩
    have : s.data.toList[0]'(by rw [hl];simp) = c:=by simp [hl]
    rw [show s[0]'h = s.data.toList[0]'(by rw [hl];simp) by simp;rfl,this]
theorem noMinus_cons (t : List UInt8) : noMinus (45 :: t) = t:=by
  unfold noMinus Lib.trimPrefix
  rw [if_pos (by simp [Lib.hasPrefix])];rfl
theorem noMinus_ne {c : UInt8} (t : List UInt8) (h : c ≠ 45) : noMinus (c :: t) = c :: t:=by
  unfold noMinus Lib.trimPrefix
  rw [if_neg]
  intro hp
  have h2 : 45 = c:=by simpa [Lib.hasPrefix] using hp
  exact h h2.symm
theorem u8_ne {c : UInt8} {n : Nat} (hn : n < 256) (h : c ≠ UInt8.ofNat n) : c.toNat ≠ n:=fun e=>h (UInt8.toNat_inj.1 (by rw [e];simp;omega))
theorem form_any (s : ByteArray) (hmax : s.size <= 9223372036854775807) (w : World) : Calls Tryz.prog 64 #[.string s] w fun e w'=>e = .returned (.bool (formL s.data.toList))/\w' = w:=by
  by_cases h0 : s.size = 0
  · have hl : s.data.toList = []:=by
      have : s.data.toList.length = 0:=by simpa using h0
      exact List.eq_nil_of_length_eq_zero this
    rw [hl,show formL [] = false from rfl]
    exact form_e0 s h0 w
  have hp0 : 0 < s.size:=by omega
  obtain ⟨t,ht⟩:=at0 hp0
  have hlen : s.size = t.length + 1:=by have:=congrArg List.length ht;simpa using this
  obtain ⟨c,hc⟩ : ∃ c,s[0]'hp0 = c:=⟨_,rfl⟩
  rw [hc] at ht
  have hst : s.toList = c :: t:=by rw [toList_data',ht]
  by_cases h45 : c = 45
  · subst h45
    have hx : (s.extract 1 s.size).data.toList = t:=by simp [ht,hlen]
    have hsz : (s.extract 1 s.size).size = t.length:=by
      have:=congrArg List.length hx;simpa using this
    have hcn : (s[0]'hp0).toNat = 45:=by rw [hc];rfl
    have hf : formL s.data.toList = (t.all isDig && !t.isEmpty && !decide (t.head? = some 48)):=by
      unfold formL areDig
      rw [ht,noMinus_cons]
      simp
    rw [hf]
    cases t with
    | nil=>exact form_m0 s 0 hlen hsz hp0 hcn hmax rfl w
    | cons d t =>
      by_cases hz : d = 48/\t = []
      · obtain ⟨rfl,rfl⟩:=hz
        rw [show ((([48] : List UInt8).all isDig && !([48] : List UInt8).isEmpty && !decide (([48] : List UInt8).head? = some 48)) = false) by decide]
        exact form_m1 s 1 hlen hsz hp0 hcn hmax (by omega) (by rw [hst];rfl) w
      · have hs : (s.toList == [45,48]) = false:=by
          rw [hst,beq_eq_false_iff_ne]
          intro e
          simp at e
          exact hz e
        have hq : 0 < (s.extract 1 s.size).size:=by rw [hsz];simp
        obtain ⟨t2,ht2⟩:=at0 hq
        have hd : (s.extract 1 s.size)[0]'hq = d:=by rw [hx] at ht2;exact (List.cons.inj ht2).1.symm
        by_cases h48 : d = 48
        · rw [show ((d :: t).all isDig && !(d :: t).isEmpty && !decide ((d :: t).head? = some 48)) = false by simp [h48]]
          exact form_m2 s _ hlen hsz hp0 hcn hmax (by
            cases t with
            | nil=>exact absurd ⟨h48,rfl⟩ hz
            | cons _ _=>simp) hq (by rw [hd,h48];rfl) hs w
        · have e2 : ((d :: t).all isDig && !(d :: t).isEmpty && !decide ((d :: t).head? = some 48)) = (s.extract 1 s.size).data.toList.all isDig:=by
            rw [hx];simp [h48]
          rw [e2]
          cases t with
          | nil=>exact form_m4 s _ hlen hsz hp0 hcn hmax rfl hs w
          | cons _ _=>exact form_m3 s _ hlen hsz hp0 hcn hmax (by simp) hq (by rw [hd];exact u8_ne (by omega) h48) hs w
  · have hnm : noMinus s.data.toList = s.data.toList:=by rw [ht];exact noMinus_ne t h45
    have hs : (s.toList == [45,48]) = false:=by
      rw [hst,beq_eq_false_iff_ne]
      intro e
      exact h45 (List.cons.inj e).1
    by_cases hz : c = 48/\t ≠ []
    · have hn1 : 1 < s.size:=by
        cases t with
        | nil=>exact absurd rfl hz.2
        | cons _ _=>rw [hlen];simp
      rw [show formL s.data.toList = false by
        unfold formL
        rw [hnm,ht,hz.1,decide_eq_true (show ((48 : UInt8) :: t).head? = some 48/\(48 : UInt8) :: t ≠ [48] from ⟨rfl,fun e=>hz.2 (List.cons.inj e).2⟩)]
        simp]
      exact form_e1 s _ rfl hn1 hp0 (by rw [hc,hz.1];rfl) hs hmax w
    · have e2 : formL s.data.toList = s.data.toList.all isDig:=by
        unfold formL areDig
        rw [hnm,ht,decide_eq_false (show ¬ ((c :: t).head? = some 48/\c :: t ≠ [48]) from fun e=>hz ⟨by simpa using e.1,fun e3=>e.2 (by rw [e3];simpa using e.1)⟩)]
        simp
      rw [e2]
      exact form_f s _ rfl hp0 (fun _=>by rw [hc];exact u8_ne (by omega) h45) (fun _ h1=>by
        rw [hc]
        exact u8_ne (by omega) (fun e=>hz ⟨e,fun e3=>by rw [e3] at hlen;simp at hlen;omega⟩)) hs hmax w
end
section
open Go.RowKit
theorem refCheck_f (s : ByteArray) (F : ∀ w,Calls Tryz.prog 64 #[.string s] w fun e w'=>e = .returned (.bool false)/\w' = w) (w : World) : Calls Tryz.prog 13 #[.string s] w fun e w'=>e = .returned (.int .i64 1)/\w' = w:=by
  have Cf:=Lib.hid F;clear F
  go_enter Tryz.func13,Tryz.ntmps13
  go_wp2_with (go_at_call 64;(with_reducible refine (Cf.out _).mono ?_);rintro e w1 ⟨rfl,rfl⟩)
  go_ret
  exact ⟨rfl,rfl⟩
theorem refCheck_m (s : ByteArray) (n : Nat) (b : Bool) (hsz : s.size = n + 1) (hmax : n <= 9223372036854775806) (hp0 : 0 < s.size) (h45 : (s[0]'hp0).toNat = 45) (hb : decide ((120 : Int) < (n : Int)) = b) (F : ∀ w,Calls Tryz.prog 64 #[.string s] w fun e w'=>e = .returned (.bool true)/\w' = w) (w : World) : Calls Tryz.prog 13 #[.string s] w fun e w'=>e = .returned (.int .i64 (if b then 4 else 0))/\w' = w:=by
  have Cf:=Lib.hid F
  have Cw:=Lib.hid (fun w=>refWhen_any b 4 w)
  clear F
  go_enter Tryz.func13,Tryz.ntmps13
  go_wp2_with (first
    | (go_at_call 64;(with_reducible refine (Cf.out _).mono ?_);rintro e w1 ⟨rfl,rfl⟩)
    | (go_at_call 65;(with_reducible refine (Cw.out _).mono ?_);rintro e w1 ⟨rfl,rfl⟩))
  all_goals go_ret
  all_goals exact ⟨rfl,rfl⟩
theorem refCheck_p (s : ByteArray) (n c : Nat) (b : Bool) (hsz : s.size = n) (hmax : n <= 9223372036854775806) (hp0 : 0 < s.size) (hc : (s[0]'hp0).toNat = c) (h45 : c ≠ 45) (hb : decide ((120 : Int) < (n : Int)) = b) (F : ∀ w,Calls Tryz.prog 64 #[.string s] w fun e w'=>e = .returned (.bool true)/\w' = w) (w : World) : Calls Tryz.prog 13 #[.string s] w fun e w'=>e = .returned (.int .i64 (if b then 4 else 0))/\w' = w:=by
  have Cf:=Lib.hid F
  have Cw:=Lib.hid (fun w=>refWhen_any b 4 w)
  have b1 : ((c : Int) == 45) = false:=by simp;omega
  clear F h45
  go_enter Tryz.func13,Tryz.ntmps13
  go_wp2_with (first
    | (go_at_call 64;(with_reducible refine (Cf.out _).mono ?_);rintro e w1 ⟨rfl,rfl⟩)
    | (go_at_call 65;(with_reducible refine (Cw.out _).mono ?_);rintro e w1 ⟨rfl,rfl⟩))
  all_goals go_ret
  all_goals exact ⟨rfl,rfl⟩
theorem refCheck_any (s : ByteArray) (hmax : s.size <= 9223372036854775806) (w : World) : Calls Tryz.prog 13 #[.string s] w fun e w'=>e = .returned (.int .i64 (ckL s.data.toList))/\w' = w:=by
  rw [ckL_form]
  by_cases hf : formL s.data.toList = false
  · rw [if_pos hf]
    exact refCheck_f s (fun w=>by have:=form_any s (by omega) w;rwa [hf] at this) w
  · have hf' : formL s.data.toList = true:=by simpa using hf
    have F : ∀ w,Calls Tryz.prog 64 #[.string s] w fun e w'=>e = .returned (.bool true)/\w' = w:=fun w=>by have:=form_any s (by omega) w;rwa [hf'] at this
    rw [if_neg hf]
    have hp0 : 0 < s.size:=by
      rcases Nat.eq_zero_or_pos s.size with h0 | h0
      · have hl : s.data.toList = []:=List.eq_nil_of_length_eq_zero (by simpa using h0)
        rw [hl] at hf';exact absurd hf' (by decide)
      · exact h0
    obtain ⟨t,ht⟩:=at0 hp0
    have hlen : s.size = t.length + 1:=by have:=congrArg List.length ht;simpa using this
    by_cases h45 : s[0]'hp0 = 45
    · have hn : (noMinus s.data.toList).length = t.length:=by rw [ht,h45,noMinus_cons]
      rw [hn]
      have c:=refCheck_m s t.length (decide (120 < t.length)) hlen (by omega) hp0 (by rw [h45];rfl) (by simp;omega) F w
      simpa only [decide_eq_true_eq] using c
    · have hn : (noMinus s.data.toList).length = s.size:=by rw [ht,noMinus_ne t h45,List.length_cons,hlen]
      rw [hn]
      have c:=refCheck_p s s.size _ (decide (120 < s.size)) rfl hmax hp0 rfl (u8_ne (by omega) h45) (by simp;omega) F w
      simpa only [decide_eq_true_eq] using c
end
section
open Go.RowKit
theorem both_any (x : ByteArray) (E : Int) (w : World) : Calls Tryz.prog 20 #[.string x,.int .i64 E,.string x,.int .i64 E] w fun e w'=>e = .returned (.bool true)/\w' = w:=by
  go_enter Tryz.func20,Tryz.ntmps20
  go_wp2
  go_ret
  exact ⟨by simp,rfl⟩
def longL (l : List ByteArray) : Bool:=l.any fun s=>decide (300 < s.size)
theorem longL_drop (xs : List ByteArray) (k : Nat) (h : k < xs.length) : longL (xs.drop k) = (decide (300 < (xs[k]).size) || longL (xs.drop (k + 1))):=by
  unfold longL
  rw [List.drop_eq_getElem_cons h,List.any_cons]
set_option maxHeartbeats 1000000 in
theorem long_any (g n c : Nat) (xs : List ByteArray) (hn : xs.length = n) (h63 : n <= 1000) (w : World) (hx : ∀ i (h : i < xs.length),w.cell? ⟨g,i,none⟩ = some (.string xs[i])) :
    Calls Tryz.prog 11 #[.slice (some ⟨g,0,none⟩) n c] w fun e w'=>e = .returned (.bool (longL xs))/\w' = w:=by
  have Hx:=Lib.hid hx;have Hn:=Lib.hid hn
  clear hx hn
  go_enter Tryz.func11,Tryz.ntmps11
  go_wp2
  go_loop [7] (fun i=>∃ k : Nat,i = .int .i64 k/\k <= n/\longL (xs.drop k) = longL xs) (fun i=>n - (intOf i).toNat)
  case atStart=>exact ⟨0,rfl,by omega,rfl⟩
  case round =>
    obtain ⟨k,rfl,hk,hf⟩:=hrel
    have Hf:=Lib.hid hf;clear hf
    by_cases h : k < n
    · have hkx : k < xs.length:=by have:=Hn.out;omega
      have hc:=Hx.out k hkx
      have hs:=longL_drop xs k hkx
      rw [Hf.out] at hs
      obtain ⟨x,hxk⟩ : ∃ x,xs[k] = x:=⟨_,rfl⟩
      rw [hxk] at hc hs
      have d1 : decide ((k : Int) < (n : Int)) = true:=by simp;omega
      by_cases h0 : 300 < x.size
      · rw [decide_eq_true h0,Bool.true_or] at hs
        have d2 : decide ((300 : Int) < (x.size : Int)) = true:=by simp;omega
        have Hs:=Lib.hid hs
        clear hs h0 hxk
        go_wp2
        go_ret
        exact ⟨by rw [Hs.out];rfl,rfl⟩
      · rw [decide_eq_false h0,Bool.false_or] at hs
        have d2 : decide ((300 : Int) < (x.size : Int)) = false:=by simp;omega
        have Hs:=Lib.hid hs
        clear hs h0 hxk
        go_wp2
        go_round
        case rel=>exact ⟨k + 1,by go_num,by omega,Hs.out.symm⟩
        case measure=>simp [intOf];omega
    · obtain rfl : k = n:=by omega
      have d1 : decide ((k : Int) < (k : Int)) = false:=by simp
      have hs:=Hf.out
      rw [List.drop_of_length_le (by have:=Hn.out;omega)] at hs
      have Hs:=Lib.hid hs;clear hs
      go_wp2
      go_ret
      exact ⟨by rw [<- Hs.out];rfl,rfl⟩
end
section
open Go.RowKit
def Mg (w : World) (v : Value) (l : List Nat) : Prop :=
  ∃ p c,v = .slice p l.length c/\l.length <= c/\(l ≠ []->∃ g,p = some ⟨g,0,none⟩/\g < w.heap.size/\∀ i (h : i < l.length),w.cell? ⟨g,i,none⟩ = some (.int .i64 (l[i] : Int)))
theorem Mg.keep {w w' : World} {v : Value} {l : List Nat} (h : Mg w v l) (hb : Below w.heap.size w w') : Mg w' v l:=by
  obtain ⟨p,c,rfl,h0,hc⟩:=h
  refine ⟨p,c,rfl,h0,fun hl=>?_⟩
  obtain ⟨g,rfl,hg,hx⟩:=hc hl
  exact ⟨g,rfl,Nat.lt_of_lt_of_le hg hb.size,fun i hi=>cell_keep (hx i hi) hb⟩
theorem refLimb_any (v : Value) (l : List Nat) (i : Nat) (_hl : l.length <= 100000) (_hi : i <= 100000) (w : World) (hm : Mg w v l) : Calls Tryz.prog 152 #[v,.int .i64 i] w fun e w'=>e = .returned (.int .i64 ((l.getD i 0 : Nat) : Int))/\w' = w:=by
  obtain ⟨p,c,rfl,_,hc⟩:=hm
  obtain ⟨n,hn⟩ : ∃ n,l.length = n:=⟨_,rfl⟩
  by_cases h : i < l.length
  · obtain ⟨g,rfl,_,hx⟩:=hc (by intro e;rw [e] at h;simp at h)
    have hcell:=hx i h
    have hv : l.getD i 0 = l[i]:=by simp [List.getD,h]
    obtain ⟨x,hx0⟩ : ∃ x,l[i] = x:=⟨_,rfl⟩
    rw [hx0] at hcell hv
    have hd : decide ((i : Int) < (n : Int)) = true:=by simp;omega
    have h2 : i < n:=by omega
    rw [hv,hn]
    clear hc hx hx0 hv
    go_enter Tryz.func152,Tryz.ntmps152
    go_wp2
    go_ret
    exact ⟨rfl,rfl⟩
  · have hd : decide ((i : Int) < (n : Int)) = false:=by simp;omega
    have hv : l.getD i 0 = 0:=by simp [List.getD,List.getElem?_eq_none (by omega : l.length <= i)]
    rw [hv,hn]
    clear hc hv
    go_enter Tryz.func152,Tryz.ntmps152
    go_wp2
    go_ret
    exact ⟨rfl,rfl⟩
end
end Go.Proofs.YtpbegoflpfdajaaGreatDoor
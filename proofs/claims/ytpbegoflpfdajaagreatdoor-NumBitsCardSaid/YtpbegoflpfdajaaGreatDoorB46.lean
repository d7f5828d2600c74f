/- WHAT IS PROVED: contracts of functions of the numbers package and laws for them, used by the last text of this claim. CONDITIONS: stated at each theorem. -/
import Derived.Test.YtpbegoflpfdajaaGreatDoorB45
import Derived.Test.YtpbegoflpfdajaaGreatDoorB44
import Derived.Test.YtpbegoflpfdajaaGreatDoorB13
import Derived.Test.YtpbegoflpfdajaaGreatDoorB34
import Derived.Test.YtpbegoflpfdajaaGreatDoorB31
import Derived.Deep.CutRange
import Derived.Deep.DeepCutAuto
import Derived.Deep.RegionHeld3
import Derived.Test.YtpbegoflpfdajaaGreatDoorB43
namespace Go.Proofs.YtpbegoflpfdajaaGreatDoor
section
open Go.RowKit
open Qd (lims)
def opZ (i k a b : Nat) : Int :=
  match i with
  | 0=>(a : Int) + b
  | 1=>(a : Int) - b
  | 2=>(a : Int) * b
  | 3=>(a : Int) / b
  | 4=>(a : Int) % b
  | 8=>(a : Int) * 2 ^ min b k
  | 9=>(a : Int) / 2 ^ min b k
  | _=>(opN i a b : Nat)
theorem dvd64 {k : Nat} (h : k <= 64) : 2 ^ k ∣ 18446744073709551616:=by
  rw [show (18446744073709551616 : Nat) = 2 ^ 64 by decide]
  exact Nat.pow_dvd_pow 2 h
theorem cast_two (k : Nat) : ((2 ^ k : Nat) : Int) = 2 ^ k:=by rw [Int.natCast_pow];rfl
theorem cast_modk (n k : Nat) : ((n % 2 ^ k : Nat) : Int) = (n : Int) % 2 ^ k:=by rw [Int.natCast_emod,cast_two]
theorem zN0 (k a b : Nat) : opZ 0 k a b = (a : Int) + b/\opN 0 a b = (a + b) % 18446744073709551616:=⟨by unfold opZ;simp only,by unfold opN;simp only⟩
theorem zN1 (k a b : Nat) : opZ 1 k a b = (a : Int) - b/\opN 1 a b = (a + 18446744073709551616 - b) % 18446744073709551616:=⟨by unfold opZ;simp only,by unfold opN;simp only⟩
theorem zN2 (k a b : Nat) : opZ 2 k a b = (a : Int) * b/\opN 2 a b = a * b % 18446744073709551616:=⟨by unfold opZ;simp only,by unfold opN;simp only⟩
theorem zN3 (k a b : Nat) : opZ 3 k a b = (a : Int) / b/\opN 3 a b = a / b:=⟨by unfold opZ;simp only,by unfold opN;simp only⟩
theorem zN4 (k a b : Nat) : opZ 4 k a b = (a : Int) % b/\opN 4 a b = a % b:=⟨by unfold opZ;simp only,by unfold opN;simp only⟩
theorem zN8 (k a b : Nat) : opZ 8 k a b = (a : Int) * 2 ^ min b k/\opN 8 a b = a * 2 ^ min b 64 % 18446744073709551616:=⟨by unfold opZ;simp only,by unfold opN;simp only⟩
theorem zN9 (k a b : Nat) : opZ 9 k a b = (a : Int) / 2 ^ min b k/\opN 9 a b = a / 2 ^ min b 64:=⟨by unfold opZ;simp only,by unfold opN;simp only⟩
theorem zN5 (i k a b : Nat) (h : i = 5 ∨ i = 6 ∨ i = 7) : opZ i k a b = (opN i a b : Nat):=by rcases h with rfl | rfl | rfl <;> (unfold opZ;simp only)
theorem opZ_mod (i k a b : Nat) (hi : i < 10) (hk : k <= 64) (ha : a < 2 ^ k) (hb : b < 2 ^ k) : opZ i k a b % 2 ^ k = ((opN i a b % 2 ^ k : Nat) : Int):=by
  have hd:=dvd64 hk
  have hp : 0 < 2 ^ k:=Nat.pow_pos (by omega)
  obtain ⟨M,hM⟩ : ∃ M,18446744073709551616 = M:=⟨_,rfl⟩
  rw [hM] at hd
  rcases (show i = 0 ∨ i = 1 ∨ i = 2 ∨ i = 3 ∨ i = 4 ∨ (i = 5 ∨ i = 6 ∨ i = 7) ∨ i = 8 ∨ i = 9 by omega) with rfl | rfl | rfl | rfl | rfl | h | rfl | rfl
  · rw [(zN0 k a b).1,(zN0 k a b).2,hM,Nat.mod_mod_of_dvd _ hd,cast_modk,Int.natCast_add]
  · have h64 : 2 ^ k <= 18446744073709551616:=Nat.le_of_dvd (by omega) (dvd64 hk)
    rw [(zN1 k a b).1,(zN1 k a b).2,hM,Nat.mod_mod_of_dvd _ hd,cast_modk]
    obtain ⟨c,hc⟩:=hd
    rw [show ((a + M - b : Nat) : Int) = (a : Int) - b + 2 ^ k * c by rw [<- cast_two,<- Int.natCast_mul,<- hc];omega]
    rw [Int.add_mul_emod_self_left]
  · rw [(zN2 k a b).1,(zN2 k a b).2,hM,Nat.mod_mod_of_dvd _ hd,cast_modk,Int.natCast_mul]
  · rw [(zN3 k a b).1,(zN3 k a b).2,cast_modk,Int.natCast_ediv]
  · rw [(zN4 k a b).1,(zN4 k a b).2,cast_modk,Int.natCast_emod]
  · rw [zN5 i k a b h,cast_modk]
  · rw [(zN8 k a b).1,(zN8 k a b).2,hM,Nat.mod_mod_of_dvd _ hd,cast_modk]
    rcases Nat.lt_or_ge b k with h | h
    · rw [Nat.min_eq_left (by omega),Nat.min_eq_left (by omega),Int.natCast_mul,cast_two]
    · rw [Nat.min_eq_right h,Int.mul_emod_left,<- cast_modk,Nat.mod_eq_zero_of_dvd (Nat.dvd_trans (Nat.pow_dvd_pow 2 (by omega)) (Nat.dvd_mul_left _ _)),Int.natCast_zero]
  · rw [(zN9 k a b).1,(zN9 k a b).2]
    rcases Nat.lt_or_ge b k with h | h
    · rw [Nat.min_eq_left (by omega),Nat.min_eq_left (by omega),cast_modk,Int.natCast_ediv,cast_two]
    · rw [Nat.min_eq_right h,<- cast_two,<- Int.natCast_ediv,Nat.div_eq_of_lt ha,Nat.div_eq_of_lt (Nat.lt_of_lt_of_le ha (Nat.pow_le_pow_right (by omega) (by omega)))]
      simp
theorem opZ_abs (i k a b : Nat) (hi : i < 10) (hk : k <= 64) (ha : a < 2 ^ k) (hb : b < 2 ^ k) : (opZ i k a b).natAbs < 10 ^ 40:=by
  have h64 : 2 ^ k <= 18446744073709551616:=Nat.le_of_dvd (by omega) (dvd64 hk)
  have ha2 : a < 2 ^ 64:=by omega
  have hb2 : b < 2 ^ 64:=by omega
  have hm : ∀ p q : Nat,p <= 18446744073709551616->q <= 18446744073709551616->p * q < 10 ^ 40:=fun p q h1 h2=>Nat.lt_of_le_of_lt (Nat.mul_le_mul h1 h2) (by decide)
  have hs : (2 : Nat) ^ 64 < 10 ^ 40:=by decide
  match i,hi with
  | 0,_=>show ((a : Int) + b).natAbs < 10 ^ 40;omega
  | 1,_=>show ((a : Int) - b).natAbs < 10 ^ 40;omega
  | 2,_=>show ((a : Int) * b).natAbs < 10 ^ 40;rw [<- Int.natCast_mul,Int.natAbs_natCast];exact hm a b (by omega) (by omega)
  | 3,_=>show ((a : Int) / b).natAbs < 10 ^ 40;rw [<- Int.natCast_ediv,Int.natAbs_natCast];have:=Nat.div_le_self a b;omega
  | 4,_=>show ((a : Int) % b).natAbs < 10 ^ 40;rw [<- Int.natCast_emod,Int.natAbs_natCast];have:=Nat.mod_le a b;omega
  | 5,_=>show ((a &&& b : Nat) : Int).natAbs < 10 ^ 40;rw [Int.natAbs_natCast];exact Nat.lt_trans (Nat.and_lt_two_pow _ hb2) hs
  | 6,_=>show ((a ||| b : Nat) : Int).natAbs < 10 ^ 40;rw [Int.natAbs_natCast];exact Nat.lt_trans (Nat.or_lt_two_pow ha2 hb2) hs
  | 7,_=>show ((a ^^^ b : Nat) : Int).natAbs < 10 ^ 40;rw [Int.natAbs_natCast];exact Nat.lt_trans (Nat.xor_lt_two_pow ha2 hb2) hs
  | 8,_ =>
    show ((a : Int) * 2 ^ min b k).natAbs < 10 ^ 40
    rw [<- cast_two,<- Int.natCast_mul,Int.natAbs_natCast]
    exact hm _ _ (by omega) (Nat.le_trans (Nat.pow_le_pow_right (by omega) (Nat.min_le_right b k)) h64)
  | 9,_ =>
    show ((a : Int) / 2 ^ min b k).natAbs < 10 ^ 40
    rw [<- cast_two,<- Int.natCast_ediv,Int.natAbs_natCast]
    have:=Nat.div_le_self a (2 ^ min b k)
    omega
def ckOp (o : Int) : Int:=if o < 0 ∨ 10 <= o then 8 else 0
set_option maxHeartbeats 4000000 in
set_option maxRecDepth 100000 in
theorem refBits_head (x y : ByteArray) (o n : Int) (h0 : firstE [ckOp o,ckWidth n] ≠ 0) (w : World) : Calls Tryz.prog 58 #[.int .i64 o,.int .i64 n,.string x,.string y] w fun e w'=>e = .returned (errT (firstE [ckOp o,ckWidth n]))/\Below w.heap.size w w':=by
  have C8:=Lib.hid (fun b W=>refWhen_any b 8 W)
  have C3:=Lib.hid (fun b W=>refWhen_any b 3 W)
  unfold errT
  obtain ⟨E1,h1⟩ : ∃ E,ckOp o = E:=⟨_,rfl⟩
  obtain ⟨E2,h2⟩ : ∃ E,ckWidth n = E:=⟨_,rfl⟩
  rw [h1,h2] at h0 ⊢
  obtain ⟨E,hE⟩ : ∃ E,firstE [E1,E2] = E:=⟨_,rfl⟩
  rw [hE] at h0 ⊢
  have d0 : (E != 0) = true:=by simpa using h0
  obtain ⟨bo,hbo,D8⟩ : ∃ b : Bool,(if b then (8 : Int) else 0) = E1/\(o < 0/\b = true ∨ ¬ o < 0/\10 <= o/\b = true ∨ ¬ o < 0/\¬ 10 <= o/\b = false):=by
    unfold ckOp at h1
    by_cases h : o < 0
    · exact ⟨true,by show (8 : Int) = E1;rw [<- h1,if_pos (Or.inl h)],Or.inl ⟨h,rfl⟩⟩
    · by_cases h' : 10 <= o
      · exact ⟨true,by show (8 : Int) = E1;rw [<- h1,if_pos (Or.inr h')],Or.inr (Or.inl ⟨h,h',rfl⟩)⟩
      · exact ⟨false,by show (0 : Int) = E1;rw [<- h1,if_neg (by omega)],Or.inr (Or.inr ⟨h,h',rfl⟩)⟩
  obtain ⟨bn,hbn,D3⟩ : ∃ b : Bool,(if b then (3 : Int) else 0) = E2/\(n < 1/\b = true ∨ ¬ n < 1/\64 < n/\b = true ∨ ¬ n < 1/\¬ 64 < n/\b = false):=by
    unfold ckWidth at h2
    by_cases h : n < 1
    · exact ⟨true,by show (3 : Int) = E2;rw [<- h2,if_pos (Or.inl h)],Or.inl ⟨h,rfl⟩⟩
    · by_cases h' : 64 < n
      · exact ⟨true,by show (3 : Int) = E2;rw [<- h2,if_pos (Or.inr h')],Or.inr (Or.inl ⟨h,h',rfl⟩)⟩
      · exact ⟨false,by show (0 : Int) = E2;rw [<- h2,if_neg (by omega)],Or.inr (Or.inr ⟨h,h',rfl⟩)⟩
  have C8b:=Lib.hid (C8.out bo)
  have C3b:=Lib.hid (C3.out bn)
  rw [hbo] at C8b
  rw [hbn] at C3b
  clear C8 C3 hbo hbn h1 h2 h0
  go_enter Tryz.func58,Tryz.ntmps58
  go_upto_region 1 with fail
  go_cut [10] (fun s10 wx=>s10 = .int .i64 E/\Below w.heap.size w wx)
  case first =>
    rcases D8 with ⟨o1,rfl⟩ | ⟨o1,o2,rfl⟩ | ⟨o1,o2,rfl⟩ <;> rcases D3 with ⟨n1,rfl⟩ | ⟨n1,n2,rfl⟩ | ⟨n1,n2,rfl⟩ <;>
    (first | have e1:=decide_eq_false o1 | have e1:=decide_eq_true o1) <;> (first | have e3:=decide_eq_false n1 | have e3:=decide_eq_true n1) <;> (first | have e2:=decide_eq_false o2 | have e2:=decide_eq_true o2 | skip) <;> (first | have e4:=decide_eq_false n2 | have e4:=decide_eq_true n2 | skip) <;> clear o1 n1 <;> (first | clear o2 | skip) <;> (first | clear n2 | skip) <;>
    (go_wp2_with (first
      | (go_at_call 65;(with_reducible refine (C8b.out _).mono ?_);rintro e wb ⟨rfl,hw⟩;subst wb)
      | (go_at_call 65;(with_reducible refine (C3b.out _).mono ?_);rintro e wb ⟨rfl,hw⟩;subst wb)
      | (go_at_call 79;(with_reducible refine (refFirst_any _ 2 2 [E1,E2] rfl (by omega) _ (pair_cells _ E1 E2 3)).mono ?_);rintro e wc ⟨rfl,hw⟩;subst wc;rw [hE]))
     go_meet
     exact ⟨rfl,(by repeat' first | exact Below.refl _ _ | assumption | refine Below.setCell ?_ ?_ _ | refine Below.alloc ?_ ?_ _ | refine below_drewN ?_ | refine Below.drew ?_ | (simp;done) | (simp;omega))⟩)
  case rest =>
    obtain ⟨rfl,hl⟩:=hcut
    clear C8b C3b D8 D3 hE
    go_wp2
    go_ret2
    exact ⟨rfl,hl⟩
end
section
open Go.RowKit
open Go.Lib (decDigits)
theorem wrapV_mod (n : Nat) (s : Bool) {k : Nat} (hk : k <= 64) : ((wrapV n s % 2 ^ k : Nat) : Int) = sgn n s % 2 ^ k:=by
  have hd:=dvd64 hk
  obtain ⟨c,hc⟩:=hd
  have hM : (18446744073709551616 : Int) = 2 ^ k * (c : Int):=by
    have:=congrArg (fun z : Nat=>(z : Int)) hc
    rw [Int.natCast_mul,cast_two] at this
    exact this
  rw [cast_modk]
  have h1 : ∃ q : Int,(wrapV n s : Int) = sgn n s + 18446744073709551616 * q:=by
    cases s
    · refine ⟨-((n / 18446744073709551616 : Nat) : Int),?_⟩
      rw [sgn_f];unfold wrapV
      rw [if_neg (by decide)]
      omega
    · rw [sgn_t];unfold wrapV
      rw [if_pos rfl]
      by_cases h : n % 18446744073709551616 = 0
      · refine ⟨((n / 18446744073709551616 : Nat) : Int),?_⟩
        omega
      · refine ⟨((n / 18446744073709551616 : Nat) : Int) + 1,?_⟩
        omega
  obtain ⟨q,hq⟩:=h1
  rw [hq,hM,Int.mul_assoc,Int.add_mul_emod_self_left]
theorem tz_nat (n : Nat) : tz (n : Int) = ⟨(decDigits n).toArray⟩:=by
  apply ByteArray.ext
  apply Array.toList_inj.1
  rw [tz_pos (by omega),show ((n : Nat) : Int).natAbs = n by omega]
theorem wrap_both (x : ByteArray) (n : Int) (sx : x.size <= 300) : ∃ s E,(∀ w,Gl w->Calls Tryz.prog 55 #[.string x,.int .i64 n] w fun e w'=>e = .returned (.tuple #[.string s,.int .i64 E])/\Below w.heap.size w w')/\(∀ w,Calls Tryz.prog 56 #[.string x,.int .i64 n] w fun e w'=>e = .returned (.tuple #[.string s,.int .i64 E])/\Below w.heap.size w w'):=by
  by_cases h : firstE [ckL x.data.toList,ckWidth n] = 0
  · obtain ⟨h1,h2⟩:=firstE_two h
    unfold ckWidth at h2
    have hn : 1 <= n/\n <= 64:=by
      by_cases g : n < 1 ∨ 64 < n
      · rw [if_pos g] at h2;omega
      · omega
    obtain ⟨k,rfl⟩ : ∃ k : Nat,n = k:=⟨n.toNat,by omega⟩
    refine ⟨_,_,fun w hg=>wrap_ok x h1 k (by omega) (by omega) w hg,fun w=>?_⟩
    have:=refWrap_ok x k (by omega) (by omega) sx h1 w
    rwa [show vz x = sgn (intM x.data.toList) (intS x.data.toList) from rfl,<- wrapV_mod _ _ (by omega),tz_nat] at this
  · exact ⟨_,_,fun w hg=>wrap_err x n _ rfl h w,fun w=>refWrap_err x n sx h w⟩
theorem firstE_head {a b c : Int} (h : firstE [a,b] ≠ 0) : firstE [a,b,c] = firstE [a,b]:=by
  unfold firstE at *
  by_cases h1 : a = 0
  · rw [if_pos h1] at h ⊢
    rw [if_pos h1]
    unfold firstE at *
    by_cases h2 : b = 0
    · rw [if_pos h2] at h;exact absurd rfl h
    · rw [if_neg h2,if_neg h2]
  · rw [if_neg h1,if_neg h1]
def bitE' (i k : Nat) (x y : ByteArray) : Int:=firstE [cbV x.data.toList k,cbV y.data.toList k,if (opB i && (y.toList == [48])) = true then 30 else 0]
theorem bits_both (x y : ByteArray) (o n : Int) (_sx : x.size <= 300) (_sy : y.size <= 300)
    (G : ∀ (i k : Nat),i < 10->1 <= k->k <= 64->∀ w,Calls Tryz.prog 58 #[.int .i64 i,.int .i64 k,.string x,.string y] w fun e w'=>e = .returned (if bitE' i k x y = 0 then .tuple #[.string (tz (opZ i k (vz x).toNat (vz y).toNat % 2 ^ k)),.int .i64 0] else errT (bitE' i k x y))/\Below w.heap.size w w') :
    ∃ s E,(∀ w,Gl w->Calls Tryz.prog 57 #[.int .i64 o,.int .i64 n,.string x,.string y] w fun e w'=>e = .returned (.tuple #[.string s,.int .i64 E])/\Below w.heap.size w w')/\(∀ w,Calls Tryz.prog 58 #[.int .i64 o,.int .i64 n,.string x,.string y] w fun e w'=>e = .returned (.tuple #[.string s,.int .i64 E])/\Below w.heap.size w w'):=by
  by_cases ho : o < 0 ∨ 10 <= o
  · have e1 : ckOp o = 8:=by unfold ckOp;rw [if_pos ho]
    have e2 : firstE [ckOp o,ckWidth n] = 8:=by rw [e1];rfl
    refine ⟨_,_,fun w hg=>bits_op o n (fun i hi=>by omega) x y w,fun w=>?_⟩
    have:=refBits_head x y o n (by rw [e2];decide) w
    rwa [e2] at this
  · obtain ⟨i,rfl⟩ : ∃ i : Nat,o = i:=⟨o.toNat,by omega⟩
    have hi : i < 10:=by omega
    by_cases hn : ckWidth n ≠ 0
    · have e1 : ckOp (i : Int) = 0:=by unfold ckOp;rw [if_neg ho]
      have e2 : firstE [ckOp (i : Int),ckWidth n] = ckWidth n:=by rw [e1];unfold firstE;rw [if_pos rfl];unfold firstE;rw [if_neg hn]
      refine ⟨_,_,fun w hg=>bits_width i hi n hn x y w,fun w=>?_⟩
      have:=refBits_head x y i n (by rw [e2];exact hn) w
      rwa [e2] at this
    · have hn0 : ckWidth n = 0:=by simpa using hn
      unfold ckWidth at hn0
      have hn2 : 1 <= n/\n <= 64:=by
        by_cases g : n < 1 ∨ 64 < n
        · rw [if_pos g] at hn0;omega
        · omega
      obtain ⟨k,rfl⟩ : ∃ k : Nat,n = k:=⟨n.toNat,by omega⟩
      have hk1 : 1 <= k:=by omega
      have hk : k <= 64:=by omega
      have GG:=G i k hi hk1 hk
      by_cases hE : firstE [cbV x.data.toList k,cbV y.data.toList k] = 0
      · obtain ⟨c1,c2⟩:=firstE_two hE
        have okz_of : ∀ z : ByteArray,cbV z.data.toList k = 0->Okz z:=fun z h=>by
          unfold cbV at h
          split at h
          · assumption
          · exact h
        have oy:=okz_of y c2
        obtain ⟨dx,px,lx⟩:=cbV_zero _ k hk c1
        obtain ⟨dy,py,ly⟩:=cbV_zero _ k hk c2
        have val_of : ∀ z : ByteArray,cbV z.data.toList k = 0->vz z = (valL z.data.toList : Int):=fun z h=>by
          have hz:=okz_of z h
          obtain ⟨d1,_,_⟩:=cbV_zero _ k hk h
          have h4:=cbV_okz hk hz
          rw [h] at h4
          have h5 : ¬ (vz z < 0 ∨ 2 ^ k <= vz z):=fun e=>by rw [if_pos e] at h4;omega
          have hv:=vz_abs z
          have : intM z.data.toList = valL z.data.toList:=by
            unfold intM
            rw [noMinus_dig _ (fun c hc=>by obtain ⟨j,hj,rfl⟩:=List.getElem_of_mem hc;simp only [isDig,decide_eq_true_eq];exact d1.2 j hj)]
          omega
        have vx:=val_of x c1
        have vy:=val_of y c2
        by_cases hB : opB i = true/\valL y.data.toList = 0
        · have hb : bitE' i k x y = 30:=by
            unfold bitE'
            rw [c1,c2,hB.1,zero_text oy,decide_eq_true (by rw [vy,hB.2];rfl)]
            rfl
          refine ⟨_,_,fun w hg=>bits_zero i hi k hk1 hk x y c1 c2 _ _ rfl rfl hB.1 hB.2 w hg,fun w=>?_⟩
          have:=GG w
          rw [hb,if_neg (by decide)] at this
          exact this
        · have hb : bitE' i k x y = 0:=by
            unfold bitE'
            rw [c1,c2,zero_text oy]
            by_cases h1 : opB i = true
            · rw [decide_eq_false (by rw [vy];have : valL y.data.toList ≠ 0:=fun e=>hB ⟨h1,e⟩;omega),Bool.and_false];rfl
            · rw [Bool.not_eq_true] at h1;rw [h1];rfl
          refine ⟨_,_,fun w hg=>bits_ok i hi k hk1 hk x y c1 c2 _ _ rfl rfl (fun h e=>hB ⟨h,e⟩) w hg,fun w=>?_⟩
          have:=GG w
          rw [hb,if_pos rfl,vx,vy,Int.toNat_natCast,Int.toNat_natCast,opZ_mod i k _ _ hi hk lx ly,tz_nat] at this
          exact this
      · have hb : bitE' i k x y = firstE [cbV x.data.toList k,cbV y.data.toList k]:=firstE_head hE
        refine ⟨_,_,fun w hg=>bits_operand i hi k hk1 hk x y _ rfl hE w hg,fun w=>?_⟩
        have:=GG w
        rw [hb,if_neg hE] at this
        exact this
end
section
open Go.RowKit
theorem str_cells4 (w : World) (a b : ByteArray) (t : TypeId) (i : Nat) (h : i < [a,b].length) : (w.alloc (.cells #[.string a,.string b] t)).cell? ⟨w.heap.size,i,none⟩ = some (.string [a,b][i]):=by
  match i,h with
  | 0,_=>simp
  | 1,_=>simp
theorem bit_cells (w : World) (x y u v : Value) (t : TypeId) : (w.alloc (.cells #[x,y,u,v] t)).cell? ⟨w.heap.size,0,none⟩ = some x/\(w.alloc (.cells #[x,y,u,v] t)).cell? ⟨w.heap.size,1,none⟩ = some y/\(w.alloc (.cells #[x,y,u,v] t)).cell? ⟨w.heap.size,2,none⟩ = some u/\(w.alloc (.cells #[x,y,u,v] t)).cell? ⟨w.heap.size,3,none⟩ = some v:=by
  refine ⟨?_,?_,?_,?_⟩ <;> go_simp
set_option maxHeartbeats 4000000 in
set_option maxRecDepth 20000 in
theorem bits_walk (o n : Int) (a b s1 s2 : ByteArray) (E1 E2 : Int)
    (A10 : ∀ w,Gl w->Calls Tryz.prog 10 #[] w fun e w'=>e = .returned (.bool true)/\Below w.heap.size w w')
    (A11 : ∀ (W : World) (g c : Nat),(∀ i (h : i < [a,b].length),W.cell? ⟨g,i,none⟩ = some (.string [a,b][i]))->Calls Tryz.prog 11 #[.slice (some ⟨g,0,none⟩) 2 c] W fun e w'=>e = .returned (.bool false)/\w' = W)
    (A55 : ∀ w,Gl w->Calls Tryz.prog 55 #[.string a,.int .i64 n] w fun e w'=>e = .returned (.tuple #[.string s1,.int .i64 E1])/\Below w.heap.size w w')
    (A56 : ∀ w,Calls Tryz.prog 56 #[.string a,.int .i64 n] w fun e w'=>e = .returned (.tuple #[.string s1,.int .i64 E1])/\Below w.heap.size w w')
    (A57 : ∀ w,Gl w->Calls Tryz.prog 57 #[.int .i64 o,.int .i64 n,.string a,.string b] w fun e w'=>e = .returned (.tuple #[.string s2,.int .i64 E2])/\Below w.heap.size w w')
    (A58 : ∀ w,Calls Tryz.prog 58 #[.int .i64 o,.int .i64 n,.string a,.string b] w fun e w'=>e = .returned (.tuple #[.string s2,.int .i64 E2])/\Below w.heap.size w w')
    (w : World) (hg : Gl w) : Calls Tryz.prog 6 #[.agg #[.int .i64 o,.int .i64 n,.string a,.string b]] w fun e w'=>e = .returned (.bool true)/\Below w.heap.size w w':=by
  have D10:=Lib.hid A10;clear A10
  have D11:=Lib.hid A11;clear A11
  have D55:=Lib.hid A55;clear A55
  have D56:=Lib.hid A56;clear A56
  have D57:=Lib.hid A57;clear A57
  have D58:=Lib.hid A58;clear A58
  have Bo:=Lib.hid both_any
  have HL0:=Lib.hid (show Below w.heap.size w (w.alloc (.cells #[.int .i64 o,.int .i64 n,.string a,.string b] 53)) from (Below.refl _ _).alloc (Nat.le_refl _) _)
  have G0:=Lib.hid (hg.keep HL0.out)
  obtain ⟨c0,c1,c2,c3⟩:=bit_cells w (.int .i64 o) (.int .i64 n) (.string a) (.string b) 53
  have hsz : w.heap.size < (w.alloc (.cells #[.int .i64 o,.int .i64 n,.string a,.string b] 53)).heap.size:=by simp
  clear hg
  go_enter Tryz.func6,Tryz.ntmps6
  go_upto_region 1 with fail
  generalize w.alloc (.cells #[.int .i64 o,.int .i64 n,.string a,.string b] 53) = W0 at *
  have B0:=Lib.hid (Below.refl W0.heap.size W0)
  go_wp2_with (first
    | (go_at_call 10;(with_reducible refine (D10.out _ G0.out).mono ?_);rintro e w1 ⟨rfl,hb⟩;have B1:=Lib.hid (B0.out.trans (hb.mono B0.out.size));have G1:=Lib.hid (G0.out.keep hb);have z1 : w.heap.size < w1.heap.size:=Nat.lt_of_lt_of_le hsz B1.out.size;have k10:=cell_kept c0 B1.out;have k11:=cell_kept c1 B1.out;have k12:=cell_kept c2 B1.out;have k13:=cell_kept c3 B1.out;clear hb B0 G0)
    | (go_at_call 11;(with_reducible refine (D11.out _ _ _ (str_cells4 _ _ _ _)).mono ?_);rintro e w2 ⟨rfl,hw⟩;have B2 : Hid (Below W0.heap.size W0 w2):=Lib.hid (by rw [hw];exact B1.out.alloc B1.out.size _);have G2 : Hid (Gl w2):=Lib.hid (by rw [hw];exact G1.out.keep (by repeat' first | exact Below.refl _ _ | assumption | refine Below.setCell ?_ ?_ _ | refine Below.alloc ?_ ?_ _ | refine below_drewN ?_ | refine Below.drew ?_ | (simp;done) | (simp;omega)));clear hw B1 G1;have z2 : w.heap.size < w2.heap.size:=Nat.lt_of_lt_of_le hsz B2.out.size;have k20:=cell_kept c0 B2.out;have k21:=cell_kept c1 B2.out;have k22:=cell_kept c2 B2.out;have k23:=cell_kept c3 B2.out)
    | (go_at_call 55;(with_reducible refine (D55.out _ G2.out).mono ?_);rintro e w3 ⟨rfl,hb⟩;have B3:=Lib.hid (B2.out.trans (hb.mono B2.out.size));have G3:=Lib.hid (G2.out.keep hb);have z3 : w.heap.size < w3.heap.size:=Nat.lt_of_lt_of_le hsz B3.out.size;have k30:=cell_kept c0 B3.out;have k31:=cell_kept c1 B3.out;have k32:=cell_kept c2 B3.out;have k33:=cell_kept c3 B3.out;clear hb B2 G2)
    | (go_at_call 56;(with_reducible refine (D56.out _).mono ?_);rintro e w4 ⟨rfl,hb⟩;have B4:=Lib.hid (B3.out.trans (hb.mono B3.out.size));have G4:=Lib.hid (G3.out.keep hb);have z4 : w.heap.size < w4.heap.size:=Nat.lt_of_lt_of_le hsz B4.out.size;have k40:=cell_kept c0 B4.out;have k41:=cell_kept c1 B4.out;have k42:=cell_kept c2 B4.out;have k43:=cell_kept c3 B4.out;clear hb B3 G3)
    | (go_at_call 20;(with_reducible refine (Bo.out s1 E1 _).mono ?_);rintro e w5 ⟨rfl,hw⟩;have B5 : Hid (Below W0.heap.size W0 w5):=Lib.hid (by rw [hw];exact B4.out);have G5 : Hid (Gl w5):=Lib.hid (by rw [hw];exact G4.out);clear hw B4 G4;have z5 : w.heap.size < w5.heap.size:=Nat.lt_of_lt_of_le hsz B5.out.size;have k50:=cell_kept c0 B5.out;have k51:=cell_kept c1 B5.out;have k52:=cell_kept c2 B5.out;have k53:=cell_kept c3 B5.out)
    | (go_at_call 57;(with_reducible refine (D57.out _ G5.out).mono ?_);rintro e w6 ⟨rfl,hb⟩;have B6:=Lib.hid (B5.out.trans (hb.mono B5.out.size));have G6:=Lib.hid (G5.out.keep hb);have z6 : w.heap.size < w6.heap.size:=Nat.lt_of_lt_of_le hsz B6.out.size;have k60:=cell_kept c0 B6.out;have k61:=cell_kept c1 B6.out;have k62:=cell_kept c2 B6.out;have k63:=cell_kept c3 B6.out;clear hb B5 G5)
    | (go_at_call 58;(with_reducible refine (D58.out _).mono ?_);rintro e w7 ⟨rfl,hb⟩;have B7:=Lib.hid (B6.out.trans (hb.mono B6.out.size));have G7:=Lib.hid (G6.out.keep hb);have z7 : w.heap.size < w7.heap.size:=Nat.lt_of_lt_of_le hsz B7.out.size;have k70:=cell_kept c0 B7.out;have k71:=cell_kept c1 B7.out;have k72:=cell_kept c2 B7.out;have k73:=cell_kept c3 B7.out;clear hb B6 G6)
    | (go_at_call 20;(with_reducible refine (Bo.out s2 E2 _).mono ?_);rintro e w8 ⟨rfl,hw⟩;have B8 : Hid (Below W0.heap.size W0 w8):=Lib.hid (by rw [hw];exact B7.out);have G8 : Hid (Gl w8):=Lib.hid (by rw [hw];exact G7.out);clear hw B7 G7;have z8 : w.heap.size < w8.heap.size:=Nat.lt_of_lt_of_le hsz B8.out.size;have k80:=cell_kept c0 B8.out;have k81:=cell_kept c1 B8.out;have k82:=cell_kept c2 B8.out;have k83:=cell_kept c3 B8.out))
  go_ret
  exact ⟨rfl,HL0.out.trans (B8.out.mono HL0.out.size)⟩
set_option maxHeartbeats 2000000 in
set_option maxRecDepth 20000 in
theorem bits_long (o n : Int) (a b : ByteArray)
    (A10 : ∀ w,Gl w->Calls Tryz.prog 10 #[] w fun e w'=>e = .returned (.bool true)/\Below w.heap.size w w')
    (A11 : ∀ (W : World) (g c : Nat),(∀ i (h : i < [a,b].length),W.cell? ⟨g,i,none⟩ = some (.string [a,b][i]))->Calls Tryz.prog 11 #[.slice (some ⟨g,0,none⟩) 2 c] W fun e w'=>e = .returned (.bool true)/\w' = W)
    (w : World) (hg : Gl w) : Calls Tryz.prog 6 #[.agg #[.int .i64 o,.int .i64 n,.string a,.string b]] w fun e w'=>e = .returned (.bool true)/\Below w.heap.size w w':=by
  have D10:=Lib.hid A10;clear A10
  have D11:=Lib.hid A11;clear A11
  have HL0:=Lib.hid (show Below w.heap.size w (w.alloc (.cells #[.int .i64 o,.int .i64 n,.string a,.string b] 53)) from (Below.refl _ _).alloc (Nat.le_refl _) _)
  have G0:=Lib.hid (hg.keep HL0.out)
  obtain ⟨c0,c1,c2,c3⟩:=bit_cells w (.int .i64 o) (.int .i64 n) (.string a) (.string b) 53
  have hsz : w.heap.size < (w.alloc (.cells #[.int .i64 o,.int .i64 n,.string a,.string b] 53)).heap.size:=by simp
  clear hg
  go_enter Tryz.func6,Tryz.ntmps6
  go_upto_region 1 with fail
  generalize w.alloc (.cells #[.int .i64 o,.int .i64 n,.string a,.string b] 53) = W0 at *
  have B0:=Lib.hid (Below.refl W0.heap.size W0)
  go_wp2_with (first
    | (go_at_call 10;(with_reducible refine (D10.out _ G0.out).mono ?_);rintro e w1 ⟨rfl,hb⟩;have B1:=Lib.hid (B0.out.trans (hb.mono B0.out.size));have G1:=Lib.hid (G0.out.keep hb);have z1 : w.heap.size < w1.heap.size:=Nat.lt_of_lt_of_le hsz B1.out.size;have k10:=cell_kept c0 B1.out;have k11:=cell_kept c1 B1.out;have k12:=cell_kept c2 B1.out;have k13:=cell_kept c3 B1.out;clear hb B0 G0)
    | (go_at_call 11;(with_reducible refine (D11.out _ _ _ (str_cells4 _ _ _ _)).mono ?_);rintro e w2 ⟨rfl,hw⟩;have B2 : Hid (Below W0.heap.size W0 w2):=Lib.hid (by rw [hw];exact B1.out.alloc B1.out.size _);have G2 : Hid (Gl w2):=Lib.hid (by rw [hw];exact G1.out.keep (by repeat' first | exact Below.refl _ _ | assumption | refine Below.setCell ?_ ?_ _ | refine Below.alloc ?_ ?_ _ | refine below_drewN ?_ | refine Below.drew ?_ | (simp;done) | (simp;omega)));clear hw B1 G1;have z2 : w.heap.size < w2.heap.size:=Nat.lt_of_lt_of_le hsz B2.out.size;have k20:=cell_kept c0 B2.out;have k21:=cell_kept c1 B2.out;have k22:=cell_kept c2 B2.out;have k23:=cell_kept c3 B2.out)
    | (go_at_call 10;(with_reducible refine (D10.out _ G2.out).mono ?_);rintro e w3 ⟨rfl,hb⟩;have B3:=Lib.hid (B2.out.trans (hb.mono B2.out.size));clear hb B2 G2))
  go_ret
  exact ⟨rfl,HL0.out.trans (B3.out.mono HL0.out.size)⟩
theorem bits_any (o n : Int) (a b : ByteArray)
    (G : ∀ (i k : Nat),a.size <= 300->b.size <= 300->i < 10->1 <= k->k <= 64->∀ w,Calls Tryz.prog 58 #[.int .i64 i,.int .i64 k,.string a,.string b] w fun e w'=>e = .returned (if bitE' i k a b = 0 then .tuple #[.string (tz (opZ i k (vz a).toNat (vz b).toNat % 2 ^ k)),.int .i64 0] else errT (bitE' i k a b))/\Below w.heap.size w w')
    (w : World) (hg : Gl w) : Calls Tryz.prog 6 #[.agg #[.int .i64 o,.int .i64 n,.string a,.string b]] w fun e w'=>e = .returned (.bool true)/\Below w.heap.size w w':=by
  have L : ∀ (W : World) (g c : Nat),(∀ i (h : i < [a,b].length),W.cell? ⟨g,i,none⟩ = some (.string [a,b][i]))->Calls Tryz.prog 11 #[.slice (some ⟨g,0,none⟩) 2 c] W fun e w'=>e = .returned (.bool (longL [a,b]))/\w' = W:=fun W g c h=>long_any g 2 c [a,b] rfl (by omega) W h
  by_cases hl : longL [a,b] = true
  · rw [hl] at L
    exact bits_long o n a b awake_any L w hg
  · rw [Bool.not_eq_true] at hl
    rw [hl] at L
    have hs : a.size <= 300/\b.size <= 300:=by
      have:=hl
      unfold longL at this
      simp only [List.any_cons,List.any_nil,Bool.or_false,Bool.or_eq_false_iff,decide_eq_false_iff_not] at this
      omega
    obtain ⟨sa,sb⟩:=hs
    obtain ⟨s1,E1,f1,g1⟩:=wrap_both a n sa
    obtain ⟨s2,E2,f2,g2⟩:=bits_both a b o n sa sb (fun i k h1 h2 h3 w=>G i k sa sb h1 h2 h3 w)
    exact bits_walk o n a b s1 s2 E1 E2 awake_any L f1 g1 f2 g2 w hg
end
section
open Go.RowKit
open Qd (lims)
theorem BigAt.opened {w : World} {v : Value} {z : Int} (h : BigAt w v z) : ∃ t p c,v = .agg #[.bool t,.slice p (Qd.lsz z.natAbs) c]/\decide (z < 0) = t/\Mags w (.slice p (Qd.lsz z.natAbs) c) z.natAbs:=by
  obtain ⟨s,rfl,hs⟩:=h
  obtain ⟨p,c,rfl,_,_⟩:=hs.parts
  exact ⟨_,p,c,rfl,rfl,hs⟩
structure Bk (W : World) (b : Nat) (z : Int) (t : Bool) (s : Value) : Prop where
  c0 : W.cell? ⟨b,0,none⟩ = some (.bool t)
  c1 : W.cell? ⟨b,1,none⟩ = some s
  f0 : W.frozen? ⟨b,0,none⟩ = false
  f1 : W.frozen? ⟨b,1,none⟩ = false
  ht : decide (z < 0) = t
  m : Mags W s z.natAbs
  lt : b < W.heap.size
theorem Bk.keep {W W' : World} {b : Nat} {z : Int} {t : Bool} {s : Value} (h : Bk W b z t s) (hb : Below W.heap.size W W') : Bk W' b z t s :=
  { c0:=cell_kept h.c0 hb,c1:=cell_kept h.c1 hb,f0:=frozen_kept h.f0 hb h.lt,f1:=frozen_kept h.f1 hb h.lt,ht:=h.ht,m:=h.m.keep hb,lt:=Nat.lt_of_lt_of_le h.lt hb.size }
theorem Bk.big {W : World} {b : Nat} {z : Int} {t : Bool} {s : Value} (h : Bk W b z t s) : BigAt W (.agg #[.bool t,s]) z:=⟨s,by rw [h.ht],h.m⟩
theorem Bk.set {W : World} {b : Nat} {z z' : Int} {t t' : Bool} {s u : Value} (h : Bk W b z t s) (ht : decide (z' < 0) = t') (hu : Mags W u z'.natAbs) : Bk ((W.setCell ⟨b,0,none⟩ (.bool t')).setCell ⟨b,1,none⟩ u) b z' t' u :=
  { c0:=set_cell (World.cell?_setCell_same _ _ _ h.c0) (by omega),c1:=World.cell?_setCell_same _ _ _ (set_cell h.c1 (by omega)),f0:=set_frozen (set_frozen h.f0),f1:=set_frozen (set_frozen h.f1),ht:=ht,m:=Mg.set2 hu h.c0 _ _,lt:=by simpa using h.lt }
theorem Bk.other {W : World} {b c : Nat} {z z1 : Int} {t t1 : Bool} {s s1 : Value} (h : Bk W c z t s) (h1 : Bk W b z1 t1 s1) (hne : c ≠ b) (u0 u1 : Value) : Bk ((W.setCell ⟨b,0,none⟩ u0).setCell ⟨b,1,none⟩ u1) c z t s :=
  { c0:=cell_set (cell_set h.c0 hne) hne,c1:=cell_set (cell_set h.c1 hne) hne,f0:=set_frozen (set_frozen h.f0),f1:=set_frozen (set_frozen h.f1),ht:=h.ht,m:=Mg.set2 h.m h1.c0 _ _,lt:=by simpa using h.lt }
def FrAt (w : World) (v : Value) (P Q : Int) : Prop:=∃ t p k c t' p' k' c',v = .agg #[.bool t,.slice p k c,.bool t',.slice p' k' c']/\BigAt w (.agg #[.bool t,.slice p k c]) P/\BigAt w (.agg #[.bool t',.slice p' k' c']) Q
theorem FrAt.keep {w w' : World} {v : Value} {P Q : Int} (h : FrAt w v P Q) (hb : Below w.heap.size w w') : FrAt w' v P Q:=by
  obtain ⟨t,p,k,c,t',p',k',c',rfl,h1,h2⟩:=h
  exact ⟨t,p,k,c,t',p',k',c',rfl,h1.keep hb,h2.keep hb⟩
end
section
open Go.RowKit
open Qd (lims)
theorem Bk.two {W : World} {b1 b2 : Nat} {z1 z2 y1 y2 : Int} {t1 t2 t3 t4 : Bool} {s1 s2 u1 u2 : Value} (h1 : Bk W b1 z1 t1 s1) (h2 : Bk W b2 z2 t2 s2) (hne : b1 ≠ b2) (k1 : decide (y1 < 0) = t3) (k2 : decide (y2 < 0) = t4) (m1 : Mags W u1 y1.natAbs) (m2 : Mags W u2 y2.natAbs) :
    Bk ((((W.setCell ⟨b1,0,none⟩ (.bool t3)).setCell ⟨b1,1,none⟩ u1).setCell ⟨b2,0,none⟩ (.bool t4)).setCell ⟨b2,1,none⟩ u2) b1 y1 t3 u1/\Bk ((((W.setCell ⟨b1,0,none⟩ (.bool t3)).setCell ⟨b1,1,none⟩ u1).setCell ⟨b2,0,none⟩ (.bool t4)).setCell ⟨b2,1,none⟩ u2) b2 y2 t4 u2:=by
  have g1:=h1.set k1 m1
  have g2:=h2.other h1 (Ne.symm hne) (.bool t3) u1
  exact ⟨g1.other g2 hne _ _,g2.set k2 (Mg.set2 m2 h1.c0 _ _)⟩
theorem Bk.new (w : World) {z : Int} {t : Bool} {s : Value} (ht : decide (z < 0) = t) (hm : Mags w s z.natAbs) : Bk (w.alloc (.cells #[.bool t,s] 74)) w.heap.size z t s :=
  { c0:=by go_simp,c1:=by go_simp,f0:=by go_simp,f1:=by go_simp,ht:=ht,m:=hm.keep (by repeat' first | exact Below.refl _ _ | assumption | refine Below.setCell ?_ ?_ _ | refine Below.alloc ?_ ?_ _ | refine below_drewN ?_ | refine Below.drew ?_ | (simp;done) | (simp;omega)),lt:=by simp }
end
end Go.Proofs.YtpbegoflpfdajaaGreatDoor
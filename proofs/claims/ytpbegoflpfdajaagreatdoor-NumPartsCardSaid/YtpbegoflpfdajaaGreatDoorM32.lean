/- WHAT IS PROVED: contracts of functions of the numbers package and laws for them, used by the last text of this claim. CONDITIONS: stated at each theorem. -/
import Derived.Test.YtpbegoflpfdajaaGreatDoorM13
import Derived.Test.YtpbegoflpfdajaaGreatDoorM31
namespace Go.Proofs.YtpbegoflpfdajaaGreatDoor
open Go.RowKit
open Go.Lib (decDigits nDigits)

set_option maxHeartbeats 2000000 in
theorem divMod_zero (x y : ByteArray) (w : World) (hg : Gl w) (h1 : ckL x.data.toList = 0) (h2 : ckL y.data.toList = 0) (h3 : intM y.data.toList = 0) : Calls Tryz.prog 27 #[.string x,.string y] w fun e w'=>e = .returned (.tuple #[.string ⟨#[]⟩,.string ⟨#[]⟩,.int .i64 30])/\Below w.heap.size w w':=by
  have cc:=checks_two x y w hg
  rw [h1,h2,show firstE [0,0] = 0 from rfl] at cc
  have Cc:=Lib.hid cc
  have HG:=Lib.hid hg
  have C2:=Lib.hid (fun w g=>parse_ck y h2 w g)
  have Cz:=Lib.hid (fun w=>isZero_any (intM y.data.toList) (intM_lt _ h2) w)
  rw [show decide (intM y.data.toList = 0) = true by simpa using h3] at Cz
  generalize intM y.data.toList = p2 at *
  generalize intS y.data.toList = s2 at *
  clear cc h1 h2 h3 hg
  go_enter Tryz.func27,Tryz.ntmps27
  go_wp2_with (first
    | (go_at_call 85;(with_reducible refine (Cc.out).mono ?_);rintro e w1 ⟨rfl,hb1⟩;have HB1:=Lib.hid (below2 hb1);have HG1:=Lib.hid (HG.out.keep2 hb1);clear hb1)
    | (go_at_call 72;(with_reducible refine (C2.out _ HG1.out).mono ?_);rintro e w2 ⟨rfl,hb2⟩;have HB2:=Lib.hid (HB1.out.trans (hb2.mono HB1.out.size));clear hb2)
    | ((with_reducible refine al_zb 88 _ w2.heap.size ?_ ?_ z88 ?_);(· exact ⟨rfl,rfl⟩);· rfl)
    | ((with_reducible refine st88 w2.heap.size 0 p2 s2 ?_ ?_ ?_);(· exact ⟨rfl,_,_,rfl,rfl,rfl⟩);· exact there_at rfl _ 88 (by rw [sgL_len]))
    | ((with_reducible refine ld86 w2.heap.size 0 p2 ?_ ?_ ?_);(· exact ⟨rfl,_,rfl,rfl⟩);· exact (range_sg (nws_at w2 p2 s2)).1)
    | (go_at_call 86;(with_reducible refine (Cz.out _).mono ?_);rintro e w3 ⟨rfl,hb3⟩;have HB3:=Lib.hid (HB2.out.trans ((nws_below hb3).mono HB2.out.size));clear hb3))
  go_ret3
  exact ⟨rfl,HB3.out⟩

theorem digN_fit {n : Nat} (h : n < 10 ^ 120) : digN n <= 120:=by
  unfold digN;split
  · omega
  · exact nD_le 119 n h
theorem fitsV_fit {n : Nat} (h : n < 10 ^ 120) : fitsV n = 0:=by
  unfold fitsV;rw [if_neg (by have:=digN_fit h;omega)]
theorem resT_val (n : Nat) (s : Bool) (T : ByteArray) (h : n < 10 ^ 120) (hT : ⟨(sgText n s).toArray⟩ = T) : resT n s = .tuple #[.string T,.int .i64 0]:=by
  unfold resT;rw [fitsV_fit h,if_pos (digN_fit h),hT]
theorem resF_val (p : Nat) (s : Bool) (q : Nat) (T : ByteArray) (h : p < 10 ^ 120) (h2 : q < 10 ^ 120) (hT : ⟨(frText p s q false).toArray⟩ = T) : resF p s q false = .tuple #[.string T,.int .i64 0]:=by
  have : fitF p q = 0:=by unfold fitF;rw [fitsV_fit h,fitsV_fit h2];rfl
  unfold resF;rw [this,if_pos rfl,hT]
theorem resR_val (p : Nat) (s : Bool) (q : Nat) (t : Bool) (p' : Nat) (s' : Bool) (q' : Nat) (T : ByteArray) (h1 : p / Nat.gcd p q = p') (h2 : (ratS p s t && !decide (p / Nat.gcd p q = 0)) = s') (h3 : q / Nat.gcd p q = q') (h : p' < 10 ^ 120) (h4 : q' < 10 ^ 120) (hT : ⟨(frText p' s' q' false).toArray⟩ = T) : resR p s q t = .tuple #[.string T,.int .i64 0]:=by
  unfold resR;rw [h2,h1,h3];exact resF_val p' s' q' T h h4 hT
theorem ex_of {f : Nat} {args : Array Value} {w : World} {v v' : Value} (h : v = v') (hc : Calls Tryz.prog f args w fun e w'=>e = .returned v/\Below w.heap.size w w') : Calls Tryz.prog f args w fun e w'=>e = .returned v'/\Below w.heap.size w w':=by subst h;exact hc
theorem ex_add (w : World) (hg : Gl w) : Calls Tryz.prog 21 #[.string ⟨#[57,57]⟩,.string ⟨#[49]⟩] w fun e w'=>e = .returned (.tuple #[.string ⟨#[49,48,48]⟩,.int .i64 0])/\Below w.heap.size w w' :=
  ex_of (by show resT (addR (intM [57,57]) (intS [57,57]) (intM [49]) (intS [49])).1 (addR (intM [57,57]) (intS [57,57]) (intM [49]) (intS [49])).2 = _;rw [show addR (intM [57,57]) (intS [57,57]) (intM [49]) (intS [49]) = ((100 : Nat),false) from by decide];exact resT_val 100 false _ (by decide) (by simp [sgText,decDigits])) (add_ok ⟨#[57,57]⟩ ⟨#[49]⟩ (by decide) (by decide) w hg)
theorem ex_sub (w : World) (hg : Gl w) : Calls Tryz.prog 23 #[.string ⟨#[53]⟩,.string ⟨#[49,50]⟩] w fun e w'=>e = .returned (.tuple #[.string ⟨#[45,55]⟩,.int .i64 0])/\Below w.heap.size w w' :=
  ex_of (by show resT (subR (intM [53]) (intS [53]) (intM [49,50]) (intS [49,50])).1 (subR (intM [53]) (intS [53]) (intM [49,50]) (intS [49,50])).2 = _;rw [show subR (intM [53]) (intS [53]) (intM [49,50]) (intS [49,50]) = ((7 : Nat),true) from by decide];exact resT_val 7 true _ (by decide) (by simp [sgText,decDigits])) (sub_ok ⟨#[53]⟩ ⟨#[49,50]⟩ (by decide) (by decide) w hg)
theorem ex_mul (w : World) (hg : Gl w) : Calls Tryz.prog 25 #[.string ⟨#[45,49,50]⟩,.string ⟨#[49,50]⟩] w fun e w'=>e = .returned (.tuple #[.string ⟨#[45,49,52,52]⟩,.int .i64 0])/\Below w.heap.size w w' :=
  ex_of (by exact resT_val 144 true _ (by decide) (by simp [sgText,decDigits])) (mul_ok ⟨#[45,49,50]⟩ ⟨#[49,50]⟩ (by decide) (by decide) w hg)
theorem ex_gcd (w : World) (hg : Gl w) : Calls Tryz.prog 33 #[.string ⟨#[45,49,50]⟩,.string ⟨#[49,56]⟩] w fun e w'=>e = .returned (.tuple #[.string ⟨#[54]⟩,.int .i64 0])/\Below w.heap.size w w' :=
  ex_of (by exact resT_val 6 false _ (by decide) (by simp [sgText,decDigits])) (gcd_ok ⟨#[45,49,50]⟩ ⟨#[49,56]⟩ (by decide) (by decide) w hg)
theorem ex_real (w : World) (hg : Gl w) : Calls Tryz.prog 47 #[.string ⟨#[54]⟩,.string ⟨#[45,52]⟩] w fun e w'=>e = .returned (.tuple #[.string ⟨#[45,51,47,50]⟩,.int .i64 0])/\Below w.heap.size w w' :=
  ex_of (by exact resR_val 6 false 4 true 3 true 2 _ (by decide) (by decide) (by decide) (by decide) (by decide) (by simp [frText,sgText,decDigits])) (real_ok ⟨#[54]⟩ ⟨#[45,52]⟩ w hg (by decide) (by decide) (by decide))
theorem ex_addReal (w : World) (hg : Gl w) : Calls Tryz.prog 35 #[.string ⟨#[49,47,50]⟩,.string ⟨#[49,47,51]⟩] w fun e w'=>e = .returned (.tuple #[.string ⟨#[53,47,54]⟩,.int .i64 0])/\Below w.heap.size w w' :=
  ex_of (by exact resR_val 5 false 6 false 5 false 6 _ (by decide) (by decide) (by decide) (by decide) (by decide) (by simp [frText,sgText,decDigits])) (addReal_ok ⟨#[49,47,50]⟩ ⟨#[49,47,51]⟩ (by decide) (by decide) (by decide) (by decide) w hg)
theorem ex_subReal (w : World) (hg : Gl w) : Calls Tryz.prog 37 #[.string ⟨#[49,47,50]⟩,.string ⟨#[49,47,50]⟩] w fun e w'=>e = .returned (.tuple #[.string ⟨#[48,47,49]⟩,.int .i64 0])/\Below w.heap.size w w' :=
  ex_of (by exact resR_val 0 false 4 false 0 false 1 _ (by decide) (by decide) (by decide) (by decide) (by decide) (by simp [frText,sgText,decDigits])) (subReal_ok ⟨#[49,47,50]⟩ ⟨#[49,47,50]⟩ (by decide) (by decide) (by decide) (by decide) w hg)
theorem ex_mulReal (w : World) (hg : Gl w) : Calls Tryz.prog 39 #[.string ⟨#[50,47,51]⟩,.string ⟨#[51,47,52]⟩] w fun e w'=>e = .returned (.tuple #[.string ⟨#[49,47,50]⟩,.int .i64 0])/\Below w.heap.size w w' :=
  ex_of (by exact resR_val 6 false 12 false 1 false 2 _ (by decide) (by decide) (by decide) (by decide) (by decide) (by simp [frText,sgText,decDigits])) (mulReal_ok ⟨#[50,47,51]⟩ ⟨#[51,47,52]⟩ (by decide) (by decide) (by decide) (by decide) w hg)
theorem ex_divReal (w : World) (hg : Gl w) : Calls Tryz.prog 41 #[.string ⟨#[49,47,50]⟩,.string ⟨#[45,51,47,52]⟩] w fun e w'=>e = .returned (.tuple #[.string ⟨#[45,50,47,51]⟩,.int .i64 0])/\Below w.heap.size w w' :=
  ex_of (by exact resR_val 4 false 6 true 2 true 3 _ (by decide) (by decide) (by decide) (by decide) (by decide) (by simp [frText,sgText,decDigits])) (divReal_ok ⟨#[49,47,50]⟩ ⟨#[45,51,47,52]⟩ (by decide) (by decide) w hg (by decide) (by decide) (by decide))
theorem ex_dm1 (w : World) (hg : Gl w) : Calls Tryz.prog 27 #[.string ⟨#[45,55]⟩,.string ⟨#[50]⟩] w fun e w'=>e = .returned (.tuple #[.string ⟨#[45,52]⟩,.string ⟨#[49]⟩,.int .i64 0])/\Below w.heap.size w w' :=
  ex_of (by show Value.tuple #[.string ⟨(sgText 4 true).toArray⟩,.string ⟨(sgText 1 false).toArray⟩,.int .i64 0] = _;simp [sgText,decDigits]) (divMod_ok ⟨#[45,55]⟩ ⟨#[50]⟩ w hg (by decide) (by decide) (by decide) (fitsV_fit (by decide)) (fitsV_fit (by decide)))
theorem ex_dm2 (w : World) (hg : Gl w) : Calls Tryz.prog 27 #[.string ⟨#[45,55]⟩,.string ⟨#[45,50]⟩] w fun e w'=>e = .returned (.tuple #[.string ⟨#[52]⟩,.string ⟨#[49]⟩,.int .i64 0])/\Below w.heap.size w w' :=
  ex_of (by show Value.tuple #[.string ⟨(sgText 4 false).toArray⟩,.string ⟨(sgText 1 false).toArray⟩,.int .i64 0] = _;simp [sgText,decDigits]) (divMod_ok ⟨#[45,55]⟩ ⟨#[45,50]⟩ w hg (by decide) (by decide) (by decide) (fitsV_fit (by decide)) (fitsV_fit (by decide)))
theorem ex_dm3 (w : World) (hg : Gl w) : Calls Tryz.prog 27 #[.string ⟨#[55]⟩,.string ⟨#[45,50]⟩] w fun e w'=>e = .returned (.tuple #[.string ⟨#[45,51]⟩,.string ⟨#[49]⟩,.int .i64 0])/\Below w.heap.size w w' :=
  ex_of (by show Value.tuple #[.string ⟨(sgText 3 true).toArray⟩,.string ⟨(sgText 1 false).toArray⟩,.int .i64 0] = _;simp [sgText,decDigits]) (divMod_ok ⟨#[55]⟩ ⟨#[45,50]⟩ w hg (by decide) (by decide) (by decide) (fitsV_fit (by decide)) (fitsV_fit (by decide)))
theorem ex_dm0 (w : World) (hg : Gl w) : Calls Tryz.prog 27 #[.string ⟨#[55]⟩,.string ⟨#[48]⟩] w fun e w'=>e = .returned (.tuple #[.string ⟨#[]⟩,.string ⟨#[]⟩,.int .i64 30])/\Below w.heap.size w w' :=
  ex_of (by rfl) (divMod_zero ⟨#[55]⟩ ⟨#[48]⟩ w hg (by decide) (by decide) (by decide))
theorem ex_pow (w : World) (hg : Gl w) : Calls Tryz.prog 31 #[.string ⟨#[45,50]⟩,.int .i64 5] w fun e w'=>e = .returned (.tuple #[.string ⟨#[45,51,50]⟩,.int .i64 0])/\Below w.heap.size w w' :=
  ex_of (by exact resT_val 32 true _ (by decide) (by simp [sgText,decDigits])) (pow_ok ⟨#[45,50]⟩ (by decide) 5 (by omega) (fun j hj=>digN_fit (by rcases (show j = 0 ∨ j = 1 ∨ j = 2 ∨ j = 3 ∨ j = 4 ∨ j = 5 by omega) with rfl | rfl | rfl | rfl | rfl | rfl <;> decide)) w hg)
theorem ex_floor (w : World) (hg : Gl w) : Calls Tryz.prog 53 #[.string ⟨#[45,51,47,50]⟩] w fun e w'=>e = .returned (.tuple #[.string ⟨#[45,50]⟩,.int .i64 0])/\Below w.heap.size w w' :=
  ex_of (by exact resT_val 2 true _ (by decide) (by simp [sgText,decDigits])) (floor_ok ⟨#[45,51,47,50]⟩ (by decide) w hg (by decide))
theorem ex_dec (w : World) (hg : Gl w) : Calls Tryz.prog 51 #[.string ⟨#[49,50,46,53,48]⟩] w fun e w'=>e = .returned (.tuple #[.string ⟨#[50,53,47,50]⟩,.int .i64 0])/\Below w.heap.size w w' :=
  ex_of (by exact resR_val 1250 false 100 false 25 false 2 _ (by decide) (by decide) (by decide) (by decide) (by decide) (by simp [frText,sgText,decDigits])) (fromDecimal_ok ⟨#[49,50,46,53,48]⟩ (by decide) w hg (by decide))
theorem ex_wrap (w : World) (hg : Gl w) : Calls Tryz.prog 55 #[.string ⟨#[45,49]⟩,.int .i64 8] w fun e w'=>e = .returned (.tuple #[.string ⟨#[50,53,53]⟩,.int .i64 0])/\Below w.heap.size w w' :=
  ex_of (by show Value.tuple #[.string ⟨(decDigits 255).toArray⟩,.int .i64 0] = _;simp [decDigits]) (wrap_ok ⟨#[45,49]⟩ (by decide) 8 (by omega) (by omega) w hg)
theorem ex_bAdd (w : World) (hg : Gl w) : Calls Tryz.prog 57 #[.int .i64 0,.int .i64 8,.string ⟨#[50,48,48]⟩,.string ⟨#[49,48,48]⟩] w fun e w'=>e = .returned (.tuple #[.string ⟨#[52,52]⟩,.int .i64 0])/\Below w.heap.size w w' :=
  ex_of (by show Value.tuple #[.string ⟨(decDigits 44).toArray⟩,.int .i64 0] = _;simp [decDigits]) (bits_ok 0 (by omega) 8 (by omega) (by omega) ⟨#[50,48,48]⟩ ⟨#[49,48,48]⟩ (by decide) (by decide) 200 100 rfl rfl (by decide) w hg)
theorem ex_bShl (w : World) (hg : Gl w) : Calls Tryz.prog 57 #[.int .i64 8,.int .i64 8,.string ⟨#[49]⟩,.string ⟨#[56]⟩] w fun e w'=>e = .returned (.tuple #[.string ⟨#[48]⟩,.int .i64 0])/\Below w.heap.size w w' :=
  ex_of (by show Value.tuple #[.string ⟨(decDigits 0).toArray⟩,.int .i64 0] = _;simp [decDigits]) (bits_ok 8 (by omega) 8 (by omega) (by omega) ⟨#[49]⟩ ⟨#[56]⟩ (by decide) (by decide) 1 8 rfl rfl (by decide) w hg)
theorem ex_bXor (w : World) (hg : Gl w) : Calls Tryz.prog 57 #[.int .i64 7,.int .i64 8,.string ⟨#[49,50]⟩,.string ⟨#[49,48]⟩] w fun e w'=>e = .returned (.tuple #[.string ⟨#[54]⟩,.int .i64 0])/\Below w.heap.size w w' :=
  ex_of (by show Value.tuple #[.string ⟨(decDigits 6).toArray⟩,.int .i64 0] = _;simp [decDigits]) (bits_ok 7 (by omega) 8 (by omega) (by omega) ⟨#[49,50]⟩ ⟨#[49,48]⟩ (by decide) (by decide) 12 10 rfl rfl (by decide) w hg)
theorem ex_cmp (w : World) (hg : Gl w) : Calls Tryz.prog 29 #[.string ⟨#[45,53]⟩,.string ⟨#[51]⟩] w fun e w'=>e = .returned (.tuple #[.int .i64 (-1),.int .i64 0])/\Below w.heap.size w w' :=
  ex_of (by rfl) (compare_ok ⟨#[45,53]⟩ ⟨#[51]⟩ (by decide) (by decide) w hg)
theorem ex_cmpReal (w : World) (hg : Gl w) : Calls Tryz.prog 43 #[.string ⟨#[49,47,51]⟩,.string ⟨#[49,47,52]⟩] w fun e w'=>e = .returned (.tuple #[.int .i64 1,.int .i64 0])/\Below w.heap.size w w' :=
  ex_of (by show Value.tuple #[.int .i64 (cmpF 1 false 3 1 false 4),.int .i64 0] = _;rw [show cmpF 1 false 3 1 false 4 = 1 from by decide]) (compareReal_ok ⟨#[49,47,51]⟩ ⟨#[49,47,52]⟩ (by decide) (by decide) w hg (by decide) (by decide))
theorem ex_toInt (w : World) (_hg : Gl w) : Calls Tryz.prog 16 #[.string ⟨#[45,52,50]⟩] w fun e w'=>e = .returned (.tuple #[.int .i64 (-42),.int .i64 0])/\Below w.heap.size w w' :=
  toInt_ok ⟨#[45,52,50]⟩ (by decide) (-42) (by rfl) w
theorem ex_neg (w : World) (hg : Gl w) : Calls Tryz.prog 18 #[.string ⟨#[48]⟩] w fun e w'=>e = .returned (.tuple #[.string ⟨#[48]⟩,.int .i64 0])/\Below w.heap.size w w' :=
  ex_of (by exact resT_val 0 false _ (by decide) (by simp [sgText,decDigits])) (neg_ok ⟨#[48]⟩ (by decide) w hg)
theorem ex_ck7 (w : World) (_hg : Gl w) : Calls Tryz.prog 12 #[.string ⟨#[48,48,55]⟩] w fun e w'=>e = .returned (.int .i64 1)/\Below w.heap.size w w' :=
  ex_of (by show Value.int .i64 (ckL [48,48,55]) = _;rw [show ckL [48,48,55] = 1 from by decide]) (check_any ⟨#[48,48,55]⟩ w)
theorem ex_ck0 (w : World) (_hg : Gl w) : Calls Tryz.prog 12 #[.string ⟨#[45,48]⟩] w fun e w'=>e = .returned (.int .i64 1)/\Below w.heap.size w w' :=
  ex_of (by show Value.int .i64 (ckL [45,48]) = _;rw [show ckL [45,48] = 1 from by decide]) (check_any ⟨#[45,48]⟩ w)
theorem ex_ckReal (w : World) (hg : Gl w) : Calls Tryz.prog 45 #[.string ⟨#[50,47,52]⟩] w fun e w'=>e = .returned (.int .i64 1)/\Below w.heap.size w w' :=
  ex_of (by show Value.int .i64 (ckR [50,47,52]) = _;rw [show ckR [50,47,52] = 1 from by decide]) (checkReal_any ⟨#[50,47,52]⟩ (by decide) w hg)
theorem ex_fromInt (w : World) (hg : Gl w) : Calls Tryz.prog 14 #[.int .i64 (-9)] w fun e w'=>e = .returned (.string ⟨#[45,57]⟩)/\Below w.heap.size w w' :=
  ex_of (by simp [Lib.itoa,decDigits]) (fromInt_any (-9) (by omega) (by omega) w hg)

def nines : ByteArray:=⟨(Lib.repeatL [57] 120).toArray⟩
theorem nines_list : nines.data.toList = List.replicate 120 57:=by
  have h : ∀ n,Lib.repeatL [57] n = List.replicate n 57:=fun n=>by
    induction n with
    | zero=>simp [Lib.repeatL]
    | succ n ih=>simp [Lib.repeatL,ih,List.replicate_succ]
  unfold nines;simp [h]
theorem nines_size : nines.size = 120:=by
  unfold nines;rw [str_size,Lib.repeatL_length];rfl
theorem ex_rep (w : World) : Calls Tryz.prog 62 #[.string ⟨#[57]⟩,.int .i64 120] w fun e w'=>e = .returned (.string nines)/\Below w.heap.size w w' :=
  Tryz.strings_Repeat ⟨#[57]⟩ 120 w (by omega) (by decide)
theorem nD_pow : ∀ k : Nat,nDigits (10 ^ k) = k + 1
  | 0=>nD_one 1 (by omega)
  | k + 1=>by
    rw [nD_step _ (by have : 0 < 10 ^ k:=Nat.pow_pos (by omega);rw [Nat.pow_succ];omega),Nat.pow_succ,Nat.mul_div_cancel _ (by omega),nD_pow k]
set_option maxRecDepth 100000 in
theorem nines_val : intM (List.replicate 120 57) = 10 ^ 120 - 1:=by decide
set_option maxRecDepth 100000 in
theorem ex_big (w : World) (hg : Gl w) : Calls Tryz.prog 21 #[.string nines,.string ⟨#[49]⟩] w fun e w'=>e = .returned (.tuple #[.string ⟨#[]⟩,.int .i64 4])/\Below w.heap.size w w':=by
  have h:=add_ok nines ⟨#[49]⟩ (by rw [nines_list];decide) (by decide) w hg
  rw [nines_list,nines_val,show intS (List.replicate 120 57) = false from by unfold intS;rfl] at h
  have e : addR (10 ^ 120 - 1) false (intM [49]) (intS [49]) = (10 ^ 120,false):=by
    unfold addR;rw [if_pos (by decide),show intM [49] = 1 from rfl,Nat.sub_add_cancel (by decide)];rfl
  change Calls Tryz.prog 21 _ w (fun e w'=>e = .returned (resT (addR (10 ^ 120 - 1) false (intM [49]) (intS [49])).1 (addR (10 ^ 120 - 1) false (intM [49]) (intS [49])).2)/\Below w.heap.size w w') at h
  rw [e] at h
  have hd : digN (10 ^ 120) = 121:=by unfold digN;rw [if_neg (by decide),nD_pow]
  have : resT (10 ^ 120) false = .tuple #[.string ⟨#[]⟩,.int .i64 4]:=by
    unfold resT fitsV;rw [hd,if_neg (by omega),if_pos (by omega)]
  rw [this] at h
  exact h
set_option maxRecDepth 100000 in
theorem ex_ckBig (w : World) (_hg : Gl w) : Calls Tryz.prog 12 #[.string (nines ++ ⟨#[57]⟩)] w fun e w'=>e = .returned (.int .i64 4)/\Below w.heap.size w w':=by
  have h:=check_any (nines ++ ⟨#[57]⟩) w
  rw [show (nines ++ ⟨#[57]⟩ : ByteArray).data.toList = List.replicate 121 57 by
    have : (nines ++ ⟨#[57]⟩ : ByteArray).data.toList = nines.data.toList ++ [57]:=by simp
    rw [this,nines_list,<- List.replicate_succ'],show ckL (List.replicate 121 57) = 4 from by decide] at h
  exact h
end Go.Proofs.YtpbegoflpfdajaaGreatDoor

/- WHAT IS PROVED: contracts of functions of the numbers package and laws for them, used by the last text of this claim. CONDITIONS: stated at each theorem. -/
import Derived.Test.YtpbegoflpfdajaaGreatDoorN48
import Derived.Laws.EntriesVeiled
import Derived.Lib.AtoiAllCases
import Derived.Test.YtpbegoflpfdajaaGreatDoorN32
namespace Go.Proofs.YtpbegoflpfdajaaGreatDoor
section
open Go.RowKit
open Go.Lib (decDigits nDigits decDigits_length)
theorem toInt_err (x : ByteArray) (h : ckL x.data.toList ≠ 0) (w : World) : Calls Tryz.prog 16 #[.string x] w fun e w' => e = .returned (.tuple #[.int .i64 0, .int .i64 (ckL x.data.toList)]) /\ Below w.heap.size w w' := by
  have cc := check_any x w
  obtain ⟨E, hE⟩ : ∃ E, ckL x.data.toList = E := ⟨_, rfl⟩
  rw [hE] at cc h ⊢
  have td : (E != 0) = true := by simpa using h
  have Cc := Lib.hid cc
  clear cc hE h
  go_enter Tryz.func16, Tryz.ntmps16
  go_wp2_with (first
    | (go_at_call 12; (with_reducible refine (Cc.out).mono ?_); rintro e w1 ⟨rfl, hb1⟩; have HB1 := Lib.hid hb1; clear hb1))
  go_ret2
  exact ⟨rfl, HB1.out⟩
theorem atoi_rng (s : ByteArray) (hs : s.size <= 281474976710656) (h : Lib.atoiAll s.data.toList = .range) (w : World) (hg : Gl w) :
    Calls Tryz.prog 69 #[.string s] w fun e w' => ∃ N v, e = .returned (.tuple #[.int .i64 v, .iface 194 (.pointer (some ⟨N, 0, none⟩))]) /\ Below w.heap.size w w' := by
  obtain ⟨a, b, e⟩ := hg.er
  refine (Tryz.strconv_Atoi_range s hs h _ w e (Or.inr ⟨a, b, rfl⟩)).mono ?_
  rintro e w' ⟨N, h1, _, _, h2⟩
  exact ⟨N, _, h1, h2⟩
theorem toInt_large (x : ByteArray) (h : ckL x.data.toList = 0) (hr : Lib.atoiAll x.data.toList = .range) (w : World) (hg : Gl w) : Calls Tryz.prog 16 #[.string x] w fun e w' => e = .returned (.tuple #[.int .i64 0, .int .i64 4]) /\ Below w.heap.size w w' := by
  have cc := check_any x w
  rw [h] at cc
  have Cc := Lib.hid cc
  have hsz := ckL_short _ h
  have hs1 : x.size <= 121 := by simpa using hsz
  have Ca := Lib.hid (fun w g => atoi_rng x (by omega) hr w g)
  have HG := Lib.hid hg
  clear cc h hsz hs1 hr hg
  go_enter Tryz.func16, Tryz.ntmps16
  go_wp2_with (first
    | (go_at_call 12; (with_reducible refine (Cc.out).mono ?_); rintro e w1 ⟨rfl, hb1⟩; have HB1 := Lib.hid hb1; have HG1 := Lib.hid (HG.out.keep hb1); clear hb1)
    | (go_at_call 69; (with_reducible refine (Ca.out _ HG1.out).mono ?_); rintro e w2 ⟨N, v, rfl, hb2⟩; have HB2 := Lib.hid hb2; clear hb2))
  go_ret2
  exact ⟨rfl, HB1.out.trans (HB2.out.mono HB1.out.size)⟩
end
section
open Go.RowKit
open Go.Lib (decDigits nDigits decDigits_length)
theorem pow_err (x : ByteArray) (n : Int) (h : ckL x.data.toList ≠ 0) (w : World) : Calls Tryz.prog 31 #[.string x, .int .i64 n] w fun e w' => e = .returned (errT (ckL x.data.toList)) /\ Below w.heap.size w w' := by
  have cc := check_any x w
  obtain ⟨E, hE⟩ : ∃ E, ckL x.data.toList = E := ⟨_, rfl⟩
  rw [hE] at cc h ⊢
  have td : (E != 0) = true := by simpa using h
  have Cc := Lib.hid cc
  clear cc hE h
  go_enter Tryz.func31, Tryz.ntmps31
  go_wp2_with (first
    | (go_at_call 12; (with_reducible refine (Cc.out).mono ?_); rintro e w1 ⟨rfl, hb1⟩; have HB1 := Lib.hid hb1; clear hb1))
  go_ret2
  exact ⟨rfl, HB1.out⟩
theorem pow_range (x : ByteArray) (n : Int) (h : ckL x.data.toList = 0) (hn : n < 0 ∨ 1000 < n) (w : World) : Calls Tryz.prog 31 #[.string x, .int .i64 n] w fun e w' => e = .returned (errT 3) /\ Below w.heap.size w w' := by
  have cc := check_any x w
  rw [h] at cc
  have Cc := Lib.hid cc
  clear cc h
  by_cases h0 : n < 0
  · have d1 : decide (n < 0) = true := by simpa using h0
    clear hn h0
    go_enter Tryz.func31, Tryz.ntmps31
    go_wp2_with (first
      | (go_at_call 12; (with_reducible refine (Cc.out).mono ?_); rintro e w1 ⟨rfl, hb1⟩; have HB1 := Lib.hid hb1; clear hb1))
    go_ret2
    exact ⟨rfl, HB1.out⟩
  · have d1 : decide (n < 0) = false := by simpa using h0
    have d2 : decide (1000 < n) = true := by simp; omega
    clear hn h0
    go_enter Tryz.func31, Tryz.ntmps31
    go_wp2_with (first
      | (go_at_call 12; (with_reducible refine (Cc.out).mono ?_); rintro e w1 ⟨rfl, hb1⟩; have HB1 := Lib.hid hb1; clear hb1))
    go_ret2
    exact ⟨rfl, HB1.out⟩
set_option maxHeartbeats 1000000 in
set_option maxRecDepth 100000 in
theorem pow_large (s : ByteArray) (h : ckL s.data.toList = 0) (n : Nat) (hn : n <= 1000) (J : Nat) (hJ : J < n) (hfit : ∀ j, j <= J -> digN (powR (intM s.data.toList) (intS s.data.toList) j).1 <= 120) (hbad : 120 < digN (powR (intM s.data.toList) (intS s.data.toList) (J + 1)).1) (w : World) (hg : Gl w) :
    Calls Tryz.prog 31 #[.string s, .int .i64 n] w fun e w' => e = .returned (errT 4) /\ Below w.heap.size w w' := by
  have cc := check_any s w
  rw [h] at cc
  have Cc := Lib.hid cc
  have HG := Lib.hid hg
  have cp := fun w g => parse_ck s h w g
  have hm := intM_small _ h
  obtain ⟨m, hm0⟩ : ∃ m, intM s.data.toList = m := ⟨_, rfl⟩
  obtain ⟨sg, hs0⟩ : ∃ sg, intS s.data.toList = sg := ⟨_, rfl⟩
  rw [hm0, hs0] at cp hfit hbad
  rw [hm0] at hm
  have Cp := Lib.hid cp
  have Hm := Lib.hid hm
  have Hfit := Lib.hid hfit
  have Hbad := Lib.hid hbad
  have d1 : decide ((n : Int) < 0) = false := by simp
  have d2 : decide ((1000 : Int) < (n : Int)) = false := by simp; omega
  clear cc hg h cp hm hm0 hs0 hfit hbad
  go_enter Tryz.func31, Tryz.ntmps31
  go_wp2_with (first
    | (go_at_call 12; (with_reducible refine (Cc.out).mono ?_); rintro e w1 ⟨rfl, hb1⟩; have HB1 := Lib.hid hb1; have HG1 := Lib.hid (HG.out.keep hb1); clear hb1)
    | (go_at_call 72; (with_reducible refine (Cp.out _ HG1.out).mono ?_); rintro e w2 ⟨rfl, hb2⟩; have HB2 := Lib.hid (HB1.out.trans (hb2.mono HB1.out.size)); clear hb2)
    | (go_at_call 94; (with_reducible refine (small_one _).mono ?_); rintro e w3 ⟨rfl, hb3⟩; have HB3 := Lib.hid (HB2.out.trans (hb3.mono HB2.out.size)); clear hb3)
    | (go_at_call 93; (with_reducible refine (number_one _).mono ?_); rintro e w4 ⟨rfl, hb4⟩; have HB4 := Lib.hid (HB3.out.trans (hb4.mono HB3.out.size)); clear hb4)
    | ((with_reducible refine al_zb 88 _ w4.heap.size ?_ ?_ z88 ?_); (· exact ⟨rfl, rfl⟩); · rfl)
    | ((with_reducible refine al_zb 88 _ (w4.heap.size + 1) ?_ ?_ z88 ?_); (· exact ⟨rfl, rfl⟩); · (simp; done))
    | ((with_reducible refine st88 w4.heap.size 0 m sg ?_ ?_ ?_); (· exact ⟨rfl, _, _, rfl, rfl, rfl⟩); · exact pw_there0 w4)
    | ((with_reducible refine st88 (w4.heap.size + 1) 0 1 false ?_ ?_ ?_); (· exact ⟨rfl, _, _, rfl, rfl, rfl⟩); · exact World.there_setCells (pw_there1 w4) _ _ _))
  have r7 := range_set (cs := sgL m sg) (pw_there0 w4) (by rw [sgL_len])
  have t8 := World.there_setCells (pw_there1 w4) w4.heap.size 0 (sgL m sg)
  have H7 := Lib.hid (range_setk (b2 := w4.heap.size + 1) (o2 := 0) (vs := sgL 1 false) r7 (by omega))
  have H8 := Lib.hid (range_set (cs := sgL 1 false) t8 (by rw [sgL_len]))
  have T8 := Lib.hid (World.there_setCells t8 (w4.heap.size + 1) 0 (sgL 1 false))
  have hbw : Below w.heap.size w ((((w4.alloc (.cells (sgL 0 false).toArray 88)).alloc (.cells (sgL 0 false).toArray 88)).setCells w4.heap.size 0 (sgL m sg)).setCells (w4.heap.size + 1) 0 (sgL 1 false)) :=
    below_set (below_set ((HB4.out.alloc HB4.out.size (.cells (sgL 0 false).toArray 88)).alloc (by have := HB4.out.size; simp; omega) (.cells (sgL 0 false).toArray 88)) (by have := HB4.out.size; omega) 0 (sgL m sg)) (by have := HB4.out.size; omega) 0 (sgL 1 false)
  have HBW := Lib.hid hbw; clear hbw
  clear r7 t8
  go_loopw [26] (fun i wr => ∃ k : Nat, i = .int .i64 k /\ k <= J /\ wr.rangeAt w4.heap.size 0 (sgL m sg) /\ wr.rangeAt (w4.heap.size + 1) 0 (sgL (powR m sg k).1 (powR m sg k).2) /\ wr.there (w4.heap.size + 1) 0 31 /\ Below w.heap.size w wr) (fun i _ => n - (intOf i).toNat)
  case atStart => exact ⟨0, rfl, by omega, H7.out, H8.out, T8.out, HBW.out⟩
  case round =>
    obtain ⟨k, rfl, hk, r7, r8, t8, hb⟩ := hrel
    by_cases hlt : k < J
    · have d3 : decide ((k : Int) < (n : Int)) = true := by simp; omega
      have hp := fit_small (Hfit.out k (by omega))
      have hf := Hfit.out (k + 1) (by omega)
      have e1 : (powR m sg (k + 1)).1 = (powR m sg k).1 * m := rfl
      have e2 : (powR m sg (k + 1)).2 = (((powR m sg k).2 != sg) && !decide ((powR m sg k).1 * m = 0)) := rfl
      rw [e1] at hf
      obtain ⟨p, hp0⟩ : ∃ p, (powR m sg k).1 = p := ⟨_, rfl⟩
      obtain ⟨q, hq0⟩ : ∃ q, (powR m sg k).2 = q := ⟨_, rfl⟩
      rw [hp0] at e1 e2 hp hf r8
      rw [hq0] at e2 r8
      have ct := fun w => timesS_any p m q sg (big_of hp) (big_of Hm.out) (mul_lt hp Hm.out) w
      rw [<- e2] at ct
      obtain ⟨u, hu⟩ : ∃ u, p * m = u := ⟨_, rfl⟩
      obtain ⟨z, hz⟩ : ∃ z, (powR m sg (k + 1)).2 = z := ⟨_, rfl⟩
      rw [hu] at e1 hf ct
      rw [hz] at ct
      have cf := fun w g => fits_any u z (big_of (fit_small hf)) w g
      rw [show fitsV u = 0 by unfold fitsV; rw [if_neg (by omega)]] at cf
      have Ct := Lib.hid ct; have Cf := Lib.hid cf
      have R7 := Lib.hid r7; have R8 := Lib.hid r8; have T8 := Lib.hid t8; have Hb := Lib.hid hb
      have E1 := Lib.hid e1; have Hz := Lib.hid hz
      clear ct cf r7 r8 t8 hb e1 e2 hp hf hp0 hq0 hu hz
      go_wp2_with (first
        | ((with_reducible refine ld88 (w4.heap.size + 1) 0 p q ?_ ?_ ?_); (· exact ⟨rfl, _, rfl, rfl⟩); · exact R8.out)
        | ((with_reducible refine ld88 w4.heap.size 0 m sg ?_ ?_ ?_); (· exact ⟨rfl, _, rfl, rfl⟩); · exact R7.out)
        | (go_at_call 83; (with_reducible refine (Ct.out _).mono ?_); rintro e w5 ⟨rfl, hb5⟩; have HB5 := Lib.hid (Hb.out.trans (hb5.mono Hb.out.size)); have R75 := Lib.hid (range_keep R7.out hb5); have T85 := Lib.hid (there_keep T8.out hb5); have HB6 := Lib.hid (below_set HB5.out (show w.heap.size <= w4.heap.size + 1 by have := HB4.out.size; omega) 0 (sgL u z)); clear hb5)
        | ((with_reducible refine st88 (w4.heap.size + 1) 0 u z ?_ ?_ ?_); (· exact ⟨rfl, _, _, rfl, rfl, rfl⟩); · exact T85.out)
        | ((with_reducible refine ld88 (w4.heap.size + 1) 0 u z ?_ ?_ ?_); (· exact ⟨rfl, _, rfl, rfl⟩); · exact range_set T85.out (by rw [sgL_len]))
        | (go_at_call 89; (with_reducible refine (Cf.out _ (HG.out.keep HB6.out)).mono ?_); rintro e w7 ⟨rfl, hb7⟩; have HB7 := Lib.hid (HB6.out.trans (hb7.mono HB6.out.size)); have R77 := Lib.hid (range_keep (range_setk (b2 := w4.heap.size + 1) (o2 := 0) (vs := sgL u z) R75.out (by omega)) hb7); have R87 := Lib.hid (range_keep (range_set T85.out (by rw [sgL_len]) : World.rangeAt _ _ _ (sgL u z)) hb7); have T87 := Lib.hid (there_keep (World.there_setCells T85.out (w4.heap.size + 1) 0 (sgL u z)) hb7); clear hb7))
      go_roundw
      case rel => exact ⟨k + 1, by go_num, by omega, R77.out, by rw [E1.out, Hz.out]; exact R87.out, T87.out, HB7.out⟩
      case measure => simp [intOf]; omega
    · obtain rfl : k = J := by omega
      have d3 : decide ((k : Int) < (n : Int)) = true := by simp; omega
      have hp := fit_small (Hfit.out k (by omega))
      have hf := Hbad.out
      have e1 : (powR m sg (k + 1)).1 = (powR m sg k).1 * m := rfl
      have e2 : (powR m sg (k + 1)).2 = (((powR m sg k).2 != sg) && !decide ((powR m sg k).1 * m = 0)) := rfl
      rw [e1] at hf
      obtain ⟨p, hp0⟩ : ∃ p, (powR m sg k).1 = p := ⟨_, rfl⟩
      obtain ⟨q, hq0⟩ : ∃ q, (powR m sg k).2 = q := ⟨_, rfl⟩
      rw [hp0] at e1 e2 hp hf r8
      rw [hq0] at e2 r8
      have ct := fun w => timesS_any p m q sg (big_of hp) (big_of Hm.out) (mul_lt hp Hm.out) w
      rw [<- e2] at ct
      obtain ⟨u, hu⟩ : ∃ u, p * m = u := ⟨_, rfl⟩
      obtain ⟨z, hz⟩ : ∃ z, (powR m sg (k + 1)).2 = z := ⟨_, rfl⟩
      rw [hu] at e1 hf ct
      rw [hz] at ct
      have hu30 := mul_lt hp Hm.out
      rw [hu] at hu30
      have cf := fun w g => fits_any u z hu30 w g
      rw [show fitsV u = 4 by unfold fitsV; rw [if_pos hf]] at cf
      have Ct := Lib.hid ct; have Cf := Lib.hid cf
      have R7 := Lib.hid r7; have R8 := Lib.hid r8; have T8 := Lib.hid t8; have Hb := Lib.hid hb
      have E1 := Lib.hid e1; have Hz := Lib.hid hz
      clear ct cf r7 r8 t8 hb e1 e2 hp hf hp0 hq0 hu hz hu30
      go_wp2_with (first
        | ((with_reducible refine ld88 (w4.heap.size + 1) 0 p q ?_ ?_ ?_); (· exact ⟨rfl, _, rfl, rfl⟩); · exact R8.out)
        | ((with_reducible refine ld88 w4.heap.size 0 m sg ?_ ?_ ?_); (· exact ⟨rfl, _, rfl, rfl⟩); · exact R7.out)
        | (go_at_call 83; (with_reducible refine (Ct.out _).mono ?_); rintro e w5 ⟨rfl, hb5⟩; have HB5 := Lib.hid (Hb.out.trans (hb5.mono Hb.out.size)); have R75 := Lib.hid (range_keep R7.out hb5); have T85 := Lib.hid (there_keep T8.out hb5); have HB6 := Lib.hid (below_set HB5.out (show w.heap.size <= w4.heap.size + 1 by have := HB4.out.size; omega) 0 (sgL u z)); clear hb5)
        | ((with_reducible refine st88 (w4.heap.size + 1) 0 u z ?_ ?_ ?_); (· exact ⟨rfl, _, _, rfl, rfl, rfl⟩); · exact T85.out)
        | ((with_reducible refine ld88 (w4.heap.size + 1) 0 u z ?_ ?_ ?_); (· exact ⟨rfl, _, rfl, rfl⟩); · exact range_set T85.out (by rw [sgL_len]))
        | (go_at_call 89; (with_reducible refine (Cf.out _ (HG.out.keep HB6.out)).mono ?_); rintro e w7 ⟨rfl, hb7⟩; have HB7 := Lib.hid (HB6.out.trans (hb7.mono HB6.out.size)); have R77 := Lib.hid (range_keep (range_setk (b2 := w4.heap.size + 1) (o2 := 0) (vs := sgL u z) R75.out (by omega)) hb7); have R87 := Lib.hid (range_keep (range_set T85.out (by rw [sgL_len]) : World.rangeAt _ _ _ (sgL u z)) hb7); have T87 := Lib.hid (there_keep (World.there_setCells T85.out (w4.heap.size + 1) 0 (sgL u z)) hb7); clear hb7))
      go_ret2
      exact ⟨rfl, HB7.out⟩
theorem powR_sgn (m : Nat) (s : Bool) : ∀ j, sgn (powR m s j).1 (powR m s j).2 = sgn m s ^ j /\ ((powR m s j).2 = true -> (powR m s j).1 ≠ 0)
  | 0 => ⟨by rw [Int.pow_zero]; rfl, fun e => by cases e⟩
  | j + 1 => by
    have h := (powR_sgn m s j).1
    refine ⟨?_, fun e => and_nz e⟩
    show sgn ((powR m s j).1 * m) (((powR m s j).2 != s) && !decide ((powR m s j).1 * m = 0)) = _
    rw [sgn_mul, h, Int.pow_succ]
theorem powR_abs (m : Nat) (s : Bool) (j : Nat) : (powR m s j).1 = m ^ j := by
  induction j with
  | zero => rfl
  | succ j ih => show (powR m s j).1 * m = _; rw [ih, Nat.pow_succ]
theorem digN_le {n : Nat} : digN n <= 120 ↔ n < 10 ^ 120 := by
  constructor
  · intro h
    rcases Nat.lt_or_ge n (10 ^ 120) with h2 | h2
    · exact h2
    · have := (fitsV_big (n := n) (by omega)).1; omega
  · exact digN_fit
theorem first_bad (P : Nat -> Prop) [DecidablePred P] : ∀ n, P 0 -> ¬ P n -> ∃ J, J < n /\ (∀ j, j <= J -> P j) /\ ¬ P (J + 1)
  | 0, h0, hn => absurd h0 hn
  | n + 1, h0, hn => by
    by_cases h : ∀ j, j <= n -> P j
    · exact ⟨n, by omega, h, hn⟩
    · obtain ⟨k, hk⟩ := Classical.not_forall.1 h
      have hk2 : k <= n /\ ¬ P k := by
        rcases Nat.lt_or_ge n k with h3 | h3
        · exact absurd (fun h4 => absurd h4 (by omega)) hk
        · exact ⟨h3, fun h5 => hk (fun _ => h5)⟩
      obtain ⟨J, h1, h2, h3⟩ := first_bad P k h0 hk2.2
      exact ⟨J, by omega, h2, h3⟩
  termination_by n => n
theorem powI_any (x : ByteArray) (n : Int) (w : World) (hg : Gl w) : Calls Tryz.prog 31 #[.string x, .int .i64 n] w fun e w' => e = .returned (if ckL x.data.toList ≠ 0 then errT (ckL x.data.toList) else if n < 0 ∨ 1000 < n then errT 3 else resI (vz x ^ n.toNat)) /\ Below w.heap.size w w' := by
  by_cases h : ckL x.data.toList = 0
  · rw [if_neg (by simpa using h)]
    by_cases hn : n < 0 ∨ 1000 < n
    · rw [if_pos hn]; exact pow_range x n h hn w
    · rw [if_neg hn]
      obtain ⟨k, rfl⟩ : ∃ k : Nat, n = k := ⟨n.toNat, by omega⟩
      rw [Int.toNat_natCast]
      have e := powR_sgn (intM x.data.toList) (intS x.data.toList) k
      have ev : sgn (powR (intM x.data.toList) (intS x.data.toList) k).1 (powR (intM x.data.toList) (intS x.data.toList) k).2 = vz x ^ k := e.1
      have ea : (vz x ^ k).natAbs = intM x.data.toList ^ k := by rw [<- ev, sgn_abs, powR_abs]
      by_cases hf : digN (powR (intM x.data.toList) (intS x.data.toList) k).1 <= 120
      · have c := pow_ok x h k (by omega) (fun j hj => by
          rw [powR_abs] at hf ⊢
          rw [digN_le] at hf ⊢
          rcases Nat.eq_zero_or_pos (intM x.data.toList) with h0 | h0
          · rw [h0]
            rcases Nat.eq_zero_or_pos j with h1 | h1
            · rw [h1]; decide
            · rw [Nat.zero_pow h1]; decide
          · exact Nat.lt_of_le_of_lt (Nat.pow_le_pow_right h0 hj) hf) w hg
        rw [resT_int e.2, ev] at c
        exact c
      · obtain ⟨J, h1, h2, h3⟩ := first_bad (fun j => digN (powR (intM x.data.toList) (intS x.data.toList) j).1 <= 120) k (by show digN 1 <= 120; exact digN_fit (by decide)) hf
        unfold resI
        rw [if_neg (by rw [ea]; rw [powR_abs, digN_le] at hf; exact hf)]
        exact pow_large x h k (by omega) J h1 h2 (by omega) w hg
  · rw [if_pos h]; exact pow_err x n h w
end
section
open Go.RowKit
open Go.Lib (decDigits nDigits decDigits_length)
end
section
open Go.RowKit
open Go.Lib (decDigits nDigits decDigits_length)
end
section
open Go.RowKit
open Go.Lib (decDigits nDigits decDigits_length)
theorem fold_ge : ∀ (l : List UInt8) (acc : Nat), acc <= l.foldl (fun v c => v * 10 + (c.toNat - 48)) acc
  | [], _ => Nat.le_refl _
  | c :: r, acc => by rw [List.foldl_cons]; exact Nat.le_trans (by omega) (fold_ge r _)
theorem parse10_dig : ∀ (l : List UInt8) (acc : Nat), acc < 18446744073709551616 -> (∀ c ∈ l, isDig c = true) -> Lib.parseUint10 acc l = if l.foldl (fun v c => v * 10 + (c.toNat - 48)) acc < 18446744073709551616 then .ok (l.foldl (fun v c => v * 10 + (c.toNat - 48)) acc) else .range
  | [], acc, h, _ => by rw [List.foldl_nil, if_pos h]; rfl
  | c :: r, acc, h, hd => by
    have hc := hd c (by simp)
    simp only [isDig, decide_eq_true_eq] at hc
    have hg := fold_ge r (acc * 10 + (c.toNat - 48))
    rw [List.foldl_cons]
    unfold Lib.parseUint10
    rw [if_pos hc]
    by_cases h1 : 1844674407370955162 <= acc
    · rw [if_pos h1, if_neg (by omega)]
    · rw [if_neg h1]
      by_cases h2 : 18446744073709551616 <= acc * 10 + (c.toNat - 48)
      · rw [if_pos h2, if_neg (by omega)]
      · rw [if_neg h2]
        exact parse10_dig r _ (by omega) (fun x hx => hd x (by simp [hx]))
theorem parseMag_dig (l : List UInt8) (h0 : 0 < l.length) (hd : ∀ c ∈ l, isDig c = true) : Lib.parseMag l = if valL l < 18446744073709551616 then .ok (valL l) else .range := by
  unfold Lib.parseMag
  rw [if_neg (by intro e; rw [e] at h0; simp at h0)]
  exact parse10_dig l 0 (by omega) hd
theorem atoi_okz {x : ByteArray} (h : Okz x) : Lib.atoiAll x.data.toList = if -9223372036854775808 <= vz x /\ vz x <= 9223372036854775807 then .ok (vz x) else .range := by
  obtain ⟨h1, h2, _, _⟩ := okz_parts h
  have pm := parseMag_dig _ h1 h2
  have hv : valL (noMinus x.data.toList) = intM x.data.toList := rfl
  rw [hv] at pm
  have hs := vz_sign x
  have ha := vz_abs x
  generalize x.data.toList = l at *
  rcases noMinus_cases l with ⟨t, ht, hn⟩ | ⟨hh, hn⟩
  · rw [hn] at pm
    rw [ht]
    unfold Lib.atoiAll
    simp only [show (45 : UInt8).toNat = 45 from rfl, or_true, if_true, true_and, not_true_eq_false, false_and, if_false]
    rw [pm]
    have hle : vz x <= 0 := by
      by_cases h0 : intM l = 0
      · omega
      · have : intS l = true := by unfold intS; rw [ht] at h0 ⊢; simp [h0]
        rw [this] at hs
        have := of_decide_eq_true hs
        omega
    by_cases hb : intM l < 18446744073709551616
    · rw [if_pos hb]
      by_cases hc : 9223372036854775808 < intM l
      · rw [if_neg (by omega)]; simp only []; rw [if_pos hc]
      · rw [if_pos ⟨by omega, by omega⟩]; simp only []; rw [if_neg hc]
        exact congrArg _ (by omega)
    · rw [if_neg hb, if_neg (by omega)]
  · have hge : 0 <= vz x := by
      have : intS l = false := by unfold intS; rw [show (l.head? == some 45) = false by simpa using hh]; rfl
      rw [this] at hs
      have := of_decide_eq_false hs
      omega
    rw [hn] at pm h1 h2
    cases l with
    | nil => simp at h1
    | cons c r =>
      have hc := h2 c (by simp)
      simp only [isDig, decide_eq_true_eq] at hc
      unfold Lib.atoiAll
      simp only [show ¬ c.toNat = 43 by omega, show ¬ c.toNat = 45 by omega, if_false, not_false_eq_true, true_and, false_and, or_false]
      rw [pm]
      by_cases hb : intM (c :: r) < 18446744073709551616
      · rw [if_pos hb]
        by_cases hc : 9223372036854775808 <= intM (c :: r)
        · rw [if_neg (by omega)]; simp only []; rw [if_pos hc]
        · rw [if_pos ⟨by omega, by omega⟩]; simp only []; rw [if_neg hc]
          exact congrArg _ (by omega)
      · rw [if_neg hb, if_neg (by omega)]
theorem toInt_any (x : ByteArray) (w : World) (hg : Gl w) : Calls Tryz.prog 16 #[.string x] w fun e w' => e = .returned (if ckL x.data.toList ≠ 0 then .tuple #[.int .i64 0, .int .i64 (ckL x.data.toList)] else if -9223372036854775808 <= vz x /\ vz x <= 9223372036854775807 then .tuple #[.int .i64 (vz x), .int .i64 0] else .tuple #[.int .i64 0, .int .i64 4]) /\ Below w.heap.size w w' := by
  by_cases h : ckL x.data.toList = 0
  · rw [if_neg (by simpa using h)]
    have a := atoi_okz (x := x) h
    by_cases hr : -9223372036854775808 <= vz x /\ vz x <= 9223372036854775807
    · rw [if_pos hr]; rw [if_pos hr] at a; exact toInt_ok x h _ a w
    · rw [if_neg hr]; rw [if_neg hr] at a; exact toInt_large x h a w hg
  · rw [if_pos h]; exact toInt_err x h w
end
section
open Go.RowKit
open Go.Lib (decDigits nDigits decDigits_length)
theorem refPow_any (x : ByteArray) (n : Int) (sx : x.size <= 300) (w : World) : Calls Tryz.prog 32 #[.string x, .int .i64 n] w fun e w' => e = .returned (if ckL x.data.toList ≠ 0 then errT (ckL x.data.toList) else if n < 0 ∨ 1000 < n then errT 3 else resI (vz x ^ n.toNat)) /\ Below w.heap.size w w' := by
  have E := refPow_err x n sx
  by_cases h : ckL x.data.toList = 0
  · rw [if_neg (by simpa using h)]
    by_cases hn : n < 0 ∨ 1000 < n
    · rw [if_pos hn, h] at E
      rw [if_pos hn]
      exact E (by decide) w
    · rw [if_neg hn]
      have := refPow_ok x n.toNat (by omega) sx h w
      rwa [show ((n.toNat : Nat) : Int) = n by omega] at this
  · rw [if_pos h]
    have hf : ∀ u, firstE [ckL x.data.toList, u] = ckL x.data.toList := fun u => by unfold firstE; rw [if_neg h]
    rw [hf] at E
    exact E h w
theorem refToInt_any (x : ByteArray) (sx : x.size <= 300) (w : World) : Calls Tryz.prog 17 #[.string x] w fun e w' => e = .returned (if ckL x.data.toList ≠ 0 then .tuple #[.int .i64 0, .int .i64 (ckL x.data.toList)] else if -9223372036854775808 <= vz x /\ vz x <= 9223372036854775807 then .tuple #[.int .i64 (vz x), .int .i64 0] else .tuple #[.int .i64 0, .int .i64 4]) /\ Below w.heap.size w w' := by
  by_cases h : ckL x.data.toList = 0
  · rw [if_neg (by simpa using h)]
    by_cases hr : -9223372036854775808 <= vz x /\ vz x <= 9223372036854775807
    · rw [if_pos hr]; exact refToInt_ok x sx h hr.1 hr.2 w
    · rw [if_neg hr]
      by_cases hb : 9223372036854775807 < vz x
      · exact refToInt_big x sx h hb w
      · exact refToInt_small x sx h (by omega) w
  · rw [if_pos h]; exact refToInt_err x sx h w
theorem itoa_tz (n : Int) : (⟨(Lib.itoa n).toArray⟩ : ByteArray) = tz n := by
  unfold tz sgText Lib.itoa
  by_cases h : n < 0
  · rw [if_pos h, decide_eq_true h, if_pos rfl]
  · rw [if_neg h, decide_eq_false h, if_neg (by decide), show n.toNat = n.natAbs by omega]
theorem ocmp_icmp (a b : Int) : ocmp a b = icmp a b := rfl
theorem divMod_same (x y : ByteArray) (w : World) (hg : Gl w) : Calls Tryz.prog 27 #[.string x, .string y] w fun e w' => e = .returned (resD x y (vz x / vz y) (vz x % vz y)) /\ Below w.heap.size w w' := by
  obtain ⟨q, r, h, c⟩ := divModI_any x y
  have c := c w hg
  by_cases h1 : ckL2 x y = 0
  · by_cases h0 : vz y = 0
    · unfold resD at c ⊢
      rw [if_neg (by simpa using h1), if_pos h0] at c ⊢
      exact c
    · obtain ⟨a1, a2, a3⟩ := h h1 h0
      obtain ⟨rfl, rfl⟩ := euclid_unique h0 a1 a2 a3
      exact c
  · unfold resD at c ⊢
    rw [if_pos h1] at c ⊢
    exact c
theorem resD_three (x y : ByteArray) (q r : Int) : ∃ a b E, resD x y q r = .tuple #[.string a, .string b, .int .i64 E] := by
  unfold resD
  split
  · exact ⟨_, _, _, rfl⟩
  · split <;> exact ⟨_, _, _, rfl⟩
theorem resI_shape (z : Int) : ∃ a E, resI z = .tuple #[.string a, .int .i64 E] := by
  unfold resI
  split
  · exact ⟨_, _, rfl⟩
  · exact ⟨_, _, rfl⟩
theorem resI2_shape (x y : ByteArray) (z : Int) : ∃ a E, resI2 x y z = .tuple #[.string a, .int .i64 E] := by
  unfold resI2
  split
  · exact resI_shape z
  · exact ⟨_, _, rfl⟩
theorem str_cells (w : World) (a b : ByteArray) (t : TypeId) (i : Nat) (h : i < [a, b].length) : (w.alloc (.cells #[.string a, .string b] t)).cell? ⟨w.heap.size, i, none⟩ = some (.string [a, b][i]) := by
  match i, h with
  | 0, _ => go_simp
  | 1, _ => go_simp
end
end Go.Proofs.YtpbegoflpfdajaaGreatDoor
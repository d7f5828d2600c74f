/- WHAT IS PROVED: contracts of functions of the numbers package and laws for them, used by the last text of this claim. CONDITIONS: stated at each theorem. -/
import Derived.LoopTactic
import Derived.Test.YtpbegoflpfdajaaGreatDoorN16
namespace Go.Proofs.YtpbegoflpfdajaaGreatDoor
open Go.RowKit
open Go.Lib (decDigits nDigits decDigits_length)

/-- a number's text -/
def decT (n : Nat) : ByteArray := ⟨(decDigits n).toArray⟩
theorem bits_word (i : Nat) (hi : i < 10) (a b : Nat) (ha : a < 18446744073709551616) (hb : b < 18446744073709551616) (h : opB i = true → b ≠ 0) (w : World) (hg : Gl w) :
    Calls Tryz.prog 57 #[.int .i64 i, .int .i64 64, .string (decT a), .string (decT b)] w fun e w' => e = .returned (.tuple #[.string (decT (opN i a b)), .int .i64 0]) ∧ Below w.heap.size w w' := by
  have := bits_ok i hi 64 (by omega) (by omega) (decT a) (decT b) (cbV_dec a ha) (cbV_dec b hb) a b (valL_decDigits a) (valL_decDigits b) h w hg
  rwa [show opN i a b % 2 ^ 64 = opN i a b from Nat.mod_eq_of_lt (opN_lt i a b ha hb (fun e => h (by rw [e]; rfl)))] at this
theorem bits_word0 (i : Nat) (hi : i < 10) (a b : Nat) (ha : a < 18446744073709551616) (hb : b < 18446744073709551616) (h : opB i = true) (h0 : b = 0) (w : World) (hg : Gl w) :
    Calls Tryz.prog 57 #[.int .i64 i, .int .i64 64, .string (decT a), .string (decT b)] w fun e w' => e = .returned (.tuple #[.string ⟨#[]⟩, .int .i64 30]) ∧ Below w.heap.size w w' :=
  bits_zero i hi 64 (by omega) (by omega) (decT a) (decT b) (cbV_dec a ha) (cbV_dec b hb) a b (valL_decDigits a) (valL_decDigits b) h h0 w hg
theorem format_word (n : Nat) (h : n < 18446744073709551616) (w : World) (hg : Gl w) :
    Calls Tryz.prog 59 #[.int .u64 n, .int .i64 10] w fun e w' => e = .returned (.string (decT n)) ∧ Below w.heap.size w w' := formatUint_any n h w hg
/-- what the law wants -/
def wantN (a b i : Nat) : Nat := if opB i = true ∧ b = 0 then 0 else opN i a b
theorem wantN_eq (a b i : Nat) : wantN a b i = if opB i = true ∧ b = 0 then 0 else opN i a b := rfl
theorem wantN_lt (a b i : Nat) (ha : a < 18446744073709551616) (hb : b < 18446744073709551616) : wantN a b i < 18446744073709551616 := by
  unfold wantN
  split
  · omega
  · rename_i h; exact opN_lt i a b ha hb (fun e h0 => h ⟨by rw [e]; rfl, h0⟩)

set_option maxHeartbeats 2000000 in
set_option maxRecDepth 100000 in
theorem words_b0 (a b : Nat) (ha : a < 18446744073709551616) (hb : b < 18446744073709551616) (hb0 : b = 0) (hawake : ∀ w, Gl w → Calls Tryz.prog 10 #[] w fun e w' => e = .returned (.bool true) ∧ Below w.heap.size w w') (w : World) (hg : Gl w) :
    Calls Tryz.prog 7 #[.int .u64 a, .int .u64 b] w fun e w' => e = .returned (.bool true) ∧ Below w.heap.size w w' := by
  have e0 := opE0 a b ha hb
  have e1 := opE1 a b ha hb
  have e2 := opE2 a b ha hb
  have e3 := opE3 a b ha hb
  have e4 := opE4 a b ha hb
  have e5 := opE5 a b ha hb
  have e6 := opE6 a b ha hb
  have e7 := opE7 a b ha hb
  have e8 := opE8 a b ha hb
  have e9 := opE9 a b ha hb
  have HG := Lib.hid hg
  have Ca := Lib.hid (fun w h => format_word a ha w h)
  have Cb := Lib.hid (fun w h => format_word b hb w h)
  have Haw := Lib.hid hawake
  have Cn := Lib.hid (fun i w h => format_word (wantN a b i) (wantN_lt a b i ha hb) w h)
  have Cz := Lib.hid (fun i hi h h0 w hg => bits_word0 i hi a b ha hb h h0 w hg)
  have Cw := Lib.hid (fun i hi h w hg => bits_word i hi a b ha hb h w hg)
  have d0 : ((b : Int) != 0) = false := by simp; omega
  have d0' : ((b : Int) == 0) = true := by simp; omega
  have d64 : decide ((b : Int) < 64) = true := by simp; omega
  rw [show min b 64 = b by omega] at e8 e9
  obtain ⟨v0, hv0⟩ : ∃ v, opN 0 a b = v := ⟨_, rfl⟩
  rw [hv0] at e0
  have HV0 := Lib.hid hv0; clear hv0
  obtain ⟨v1, hv1⟩ : ∃ v, opN 1 a b = v := ⟨_, rfl⟩
  rw [hv1] at e1
  have HV1 := Lib.hid hv1; clear hv1
  obtain ⟨v2, hv2⟩ : ∃ v, opN 2 a b = v := ⟨_, rfl⟩
  rw [hv2] at e2
  have HV2 := Lib.hid hv2; clear hv2
  obtain ⟨v3, hv3⟩ : ∃ v, opN 3 a b = v := ⟨_, rfl⟩
  rw [hv3] at e3
  have HV3 := Lib.hid hv3; clear hv3
  obtain ⟨v4, hv4⟩ : ∃ v, opN 4 a b = v := ⟨_, rfl⟩
  rw [hv4] at e4
  have HV4 := Lib.hid hv4; clear hv4
  obtain ⟨v5, hv5⟩ : ∃ v, opN 5 a b = v := ⟨_, rfl⟩
  rw [hv5] at e5
  have HV5 := Lib.hid hv5; clear hv5
  obtain ⟨v6, hv6⟩ : ∃ v, opN 6 a b = v := ⟨_, rfl⟩
  rw [hv6] at e6
  have HV6 := Lib.hid hv6; clear hv6
  obtain ⟨v7, hv7⟩ : ∃ v, opN 7 a b = v := ⟨_, rfl⟩
  rw [hv7] at e7
  have HV7 := Lib.hid hv7; clear hv7
  obtain ⟨v8, hv8⟩ : ∃ v, opN 8 a b = v := ⟨_, rfl⟩
  rw [hv8] at e8
  have HV8 := Lib.hid hv8; clear hv8
  obtain ⟨v9, hv9⟩ : ∃ v, opN 9 a b = v := ⟨_, rfl⟩
  rw [hv9] at e9
  have HV9 := Lib.hid hv9; clear hv9
  have Hb0 := Lib.hid hb0; clear hb0
  clear hg hawake
  have Hrow : ∀ i, i < 10 → (w.alloc (.cells #[.int .u64 (v0 : Int), .int .u64 (v1 : Int), .int .u64 (v2 : Int), .int .u64 0, .int .u64 0, .int .u64 (v5 : Int), .int .u64 (v6 : Int), .int .u64 (v7 : Int), .int .u64 (v8 : Int), .int .u64 (v9 : Int)] 57)).cell? ⟨w.heap.size, i, none⟩ = some (.int .u64 (wantN a b i)) := by
    intro i hi
    simp only [World.cell?, heap_alloc_at]
    have hh : i = 0 ∨ i = 1 ∨ i = 2 ∨ i = 3 ∨ i = 4 ∨ i = 5 ∨ i = 6 ∨ i = 7 ∨ i = 8 ∨ i = 9 := by omega
    rcases hh with rfl | rfl | rfl | rfl | rfl | rfl | rfl | rfl | rfl | rfl
    · rw [show wantN a b 0 = v0 from by rw [wantN_eq, if_neg (fun h => by have := h.1; revert this; decide), HV0.out]]; rfl
    · rw [show wantN a b 1 = v1 from by rw [wantN_eq, if_neg (fun h => by have := h.1; revert this; decide), HV1.out]]; rfl
    · rw [show wantN a b 2 = v2 from by rw [wantN_eq, if_neg (fun h => by have := h.1; revert this; decide), HV2.out]]; rfl
    · rw [show wantN a b 3 = 0 from by rw [wantN_eq]; exact if_pos ⟨rfl, Hb0.out⟩]; rfl
    · rw [show wantN a b 4 = 0 from by rw [wantN_eq]; exact if_pos ⟨rfl, Hb0.out⟩]; rfl
    · rw [show wantN a b 5 = v5 from by rw [wantN_eq, if_neg (fun h => by have := h.1; revert this; decide), HV5.out]]; rfl
    · rw [show wantN a b 6 = v6 from by rw [wantN_eq, if_neg (fun h => by have := h.1; revert this; decide), HV6.out]]; rfl
    · rw [show wantN a b 7 = v7 from by rw [wantN_eq, if_neg (fun h => by have := h.1; revert this; decide), HV7.out]]; rfl
    · rw [show wantN a b 8 = v8 from by rw [wantN_eq, if_neg (fun h => by have := h.1; revert this; decide), HV8.out]]; rfl
    · rw [show wantN a b 9 = v9 from by rw [wantN_eq, if_neg (fun h => by have := h.1; revert this; decide), HV9.out]]; rfl
  have Hrow := Lib.hid Hrow
  have hB1 : Below w.heap.size w (w.alloc (.cells #[.int .u64 (v0 : Int), .int .u64 (v1 : Int), .int .u64 (v2 : Int), .int .u64 0, .int .u64 0, .int .u64 (v5 : Int), .int .u64 (v6 : Int), .int .u64 (v7 : Int), .int .u64 (v8 : Int), .int .u64 (v9 : Int)] 57)) := (Below.refl _ _).alloc (Nat.le_refl _) _
  have HBw := Lib.hid hB1
  have HG1 := Lib.hid (HG.out.keep hB1)
  have HS1 := Lib.hid (show w.heap.size + 1 = (w.alloc (.cells #[.int .u64 (v0 : Int), .int .u64 (v1 : Int), .int .u64 (v2 : Int), .int .u64 0, .int .u64 0, .int .u64 (v5 : Int), .int .u64 (v6 : Int), .int .u64 (v7 : Int), .int .u64 (v8 : Int), .int .u64 (v9 : Int)] 57)).heap.size by simp)
  clear hB1
  go_enter Tryz.func7, Tryz.ntmps7
  go_wp2_with (first
    | (go_at_call 59; (with_reducible refine (Ca.out _ HG1.out).mono ?_); rintro e w1 ⟨rfl, hb1⟩; have HB1 := Lib.hid hb1; have HG2 := Lib.hid (HG1.out.keep hb1); clear hb1 HG1)
    | (go_at_call 59; (with_reducible refine (Cb.out _ HG2.out).mono ?_); rintro e w2 ⟨rfl, hb2⟩; have HB2 := Lib.hid hb2; have HG3 := Lib.hid (HG2.out.keep hb2); clear hb2 HG2))
  have hB3 : Below (w.heap.size + 1) (w.alloc (.cells #[.int .u64 (v0 : Int), .int .u64 (v1 : Int), .int .u64 (v2 : Int), .int .u64 0, .int .u64 0, .int .u64 (v5 : Int), .int .u64 (v6 : Int), .int .u64 (v7 : Int), .int .u64 (v8 : Int), .int .u64 (v9 : Int)] 57)) w2 := by rw [HS1.out]; exact HB1.out.trans (HB2.out.mono HB1.out.size)
  have HB3 := Lib.hid hB3; clear hB3
  go_loopw [61] (fun i wr => ∃ k : Nat, i = .int .i64 k ∧ k ≤ 10 ∧ Below (w.heap.size + 1) (w.alloc (.cells #[.int .u64 (v0 : Int), .int .u64 (v1 : Int), .int .u64 (v2 : Int), .int .u64 0, .int .u64 0, .int .u64 (v5 : Int), .int .u64 (v6 : Int), .int .u64 (v7 : Int), .int .u64 (v8 : Int), .int .u64 (v9 : Int)] 57)) wr) (fun i _ => 10 - (intOf i).toNat)
  case atStart => exact ⟨0, rfl, by omega, HB3.out⟩
  case round =>
    obtain ⟨k, rfl, hk, hbl⟩ := hrel
    have hw := HBw.out.trans (hbl.mono (by omega))
    have HGr := Lib.hid (HG.out.keep hw)
    by_cases h10 : k < 10
    · have hc := (hbl.cell (p := ⟨w.heap.size, k, none⟩) (by simp)).trans (Hrow.out k h10)
      have Hbl := Lib.hid hbl
      have hsz := hbl.size
      clear hbl hw
      by_cases h3 : k = 3
      · have hBk : opB k = true := by rw [h3]; rfl
        have d3 : ((k : Int) == 3) = true := by simp; omega
        clear h3
        go_wp2_with (go_at_call 57; (with_reducible refine (Cz.out k h10 hBk Hb0.out _ HGr.out).mono ?_); rintro e w5 ⟨rfl, hb5⟩; have HB5 := Lib.hid hb5; clear hb5)
        go_roundw
        case rel => exact ⟨k + 1, by go_num, by omega, Hbl.out.trans (HB5.out.mono (by have := HS1.out; omega))⟩
        case measure => simp [intOf]; omega
      · have d3 : ((k : Int) == 3) = false := by simp; omega
        by_cases h4 : k = 4
        · have hBk : opB k = true := by rw [h4]; rfl
          have d4 : ((k : Int) == 4) = true := by simp; omega
          clear h4
          go_wp2_with (go_at_call 57; (with_reducible refine (Cz.out k h10 hBk Hb0.out _ HGr.out).mono ?_); rintro e w5 ⟨rfl, hb5⟩; have HB5 := Lib.hid hb5; clear hb5)
          go_roundw
          case rel => exact ⟨k + 1, by go_num, by omega, Hbl.out.trans (HB5.out.mono (by have := HS1.out; omega))⟩
          case measure => simp [intOf]; omega
        · have d4 : ((k : Int) == 4) = false := by simp; omega
          have hBk : opB k = false := by unfold opB; simp [h3, h4]
          have cw := Cw.out k h10 (fun h => by rw [hBk] at h; cases h)
          have cn := fun w h => Cn.out k w h
          have hwk : wantN a b k = opN k a b := by rw [wantN_eq]; exact if_neg (fun h => by rw [hBk] at h; cases h.1)
          rw [hwk] at hc cn
          obtain ⟨n, hn⟩ : ∃ n, opN k a b = n := ⟨_, rfl⟩
          rw [hn] at hc cw cn
          obtain ⟨T, hT⟩ : ∃ T, decT n = T := ⟨_, rfl⟩
          rw [hT] at cw cn
          clear hn hT hwk
          go_wp2_with (first
            | (go_at_call 57; (with_reducible refine (cw _ HGr.out).mono ?_); rintro e w5 ⟨rfl, hb5⟩; have HB5 := Lib.hid hb5; have HG5 := Lib.hid (HGr.out.keep hb5); clear hb5)
            | (go_at_call 59; (with_reducible refine (cn _ HG5.out).mono ?_); rintro e w6 ⟨rfl, hb6⟩; have HB6 := Lib.hid hb6; clear hb6))
          go_roundw
          case rel => exact ⟨k + 1, by go_num, by omega, Hbl.out.trans ((HB5.out.trans (HB6.out.mono HB5.out.size)).mono (by have := HS1.out; omega))⟩
          case measure => simp [intOf]; omega
    · have hk10 : k = 10 := by omega
      subst hk10
      clear h10 hbl
      have Hw := Lib.hid hw; clear hw
      go_wp2_with (go_at_call 10; (with_reducible refine (Haw.out _ HGr.out).mono ?_); rintro e w9 ⟨rfl, hb9⟩)
      go_ret
      exact ⟨rfl, Hw.out.trans (hb9.mono Hw.out.size)⟩
end Go.Proofs.YtpbegoflpfdajaaGreatDoor

namespace Go.Proofs.YtpbegoflpfdajaaGreatDoor
open Go.RowKit
open Go.Lib (decDigits nDigits decDigits_length)

set_option maxHeartbeats 2000000 in
set_option maxRecDepth 100000 in
theorem words_sm (a b : Nat) (ha : a < 18446744073709551616) (hb : b < 18446744073709551616) (hb0 : b ≠ 0) (h64 : b < 64) (hawake : ∀ w, Gl w → Calls Tryz.prog 10 #[] w fun e w' => e = .returned (.bool true) ∧ Below w.heap.size w w') (w : World) (hg : Gl w) :
    Calls Tryz.prog 7 #[.int .u64 a, .int .u64 b] w fun e w' => e = .returned (.bool true) ∧ Below w.heap.size w w' := by
  have e0 := opE0 a b ha hb
  have e1 := opE1 a b ha hb
  have e2 := opE2 a b ha hb
  have e3 := opE3 a b ha hb
  have e4 := opE4 a b ha hb
  have e5 := opE5 a b ha hb
  have e6 := opE6 a b ha hb
  have e7 := opE7 a b ha hb
  have e8 := opE8 a b ha hb
  have e9 := opE9 a b ha hb
  have HG := Lib.hid hg
  have Ca := Lib.hid (fun w h => format_word a ha w h)
  have Cb := Lib.hid (fun w h => format_word b hb w h)
  have Haw := Lib.hid hawake
  have Cn := Lib.hid (fun i w h => format_word (wantN a b i) (wantN_lt a b i ha hb) w h)
  have Cz := Lib.hid (fun i hi h h0 w hg => bits_word0 i hi a b ha hb h h0 w hg)
  have Cw := Lib.hid (fun i hi h w hg => bits_word i hi a b ha hb h w hg)
  have d0 : ((b : Int) != 0) = true := by simp; omega
  have d0' : ((b : Int) == 0) = false := by simp; omega
  have hbi : (b : Int) ≠ 0 := by omega
  have hbp : 0 < (b : Int) := by omega
  have d64 : decide ((b : Int) < 64) = true := by simp; omega
  rw [show min b 64 = b by omega] at e8 e9
  obtain ⟨v0, hv0⟩ : ∃ v, opN 0 a b = v := ⟨_, rfl⟩
  rw [hv0] at e0
  have HV0 := Lib.hid hv0; clear hv0
  obtain ⟨v1, hv1⟩ : ∃ v, opN 1 a b = v := ⟨_, rfl⟩
  rw [hv1] at e1
  have HV1 := Lib.hid hv1; clear hv1
  obtain ⟨v2, hv2⟩ : ∃ v, opN 2 a b = v := ⟨_, rfl⟩
  rw [hv2] at e2
  have HV2 := Lib.hid hv2; clear hv2
  obtain ⟨v3, hv3⟩ : ∃ v, opN 3 a b = v := ⟨_, rfl⟩
  rw [hv3] at e3
  have HV3 := Lib.hid hv3; clear hv3
  obtain ⟨v4, hv4⟩ : ∃ v, opN 4 a b = v := ⟨_, rfl⟩
  rw [hv4] at e4
  have HV4 := Lib.hid hv4; clear hv4
  obtain ⟨v5, hv5⟩ : ∃ v, opN 5 a b = v := ⟨_, rfl⟩
  rw [hv5] at e5
  have HV5 := Lib.hid hv5; clear hv5
  obtain ⟨v6, hv6⟩ : ∃ v, opN 6 a b = v := ⟨_, rfl⟩
  rw [hv6] at e6
  have HV6 := Lib.hid hv6; clear hv6
  obtain ⟨v7, hv7⟩ : ∃ v, opN 7 a b = v := ⟨_, rfl⟩
  rw [hv7] at e7
  have HV7 := Lib.hid hv7; clear hv7
  obtain ⟨v8, hv8⟩ : ∃ v, opN 8 a b = v := ⟨_, rfl⟩
  rw [hv8] at e8
  have HV8 := Lib.hid hv8; clear hv8
  obtain ⟨v9, hv9⟩ : ∃ v, opN 9 a b = v := ⟨_, rfl⟩
  rw [hv9] at e9
  have HV9 := Lib.hid hv9; clear hv9
  have Hb0 := Lib.hid hb0; clear hb0
  clear hg hawake
  have Hrow : ∀ i, i < 10 → (w.alloc (.cells #[.int .u64 (v0 : Int), .int .u64 (v1 : Int), .int .u64 (v2 : Int), .int .u64 (v3 : Int), .int .u64 (v4 : Int), .int .u64 (v5 : Int), .int .u64 (v6 : Int), .int .u64 (v7 : Int), .int .u64 (v8 : Int), .int .u64 (v9 : Int)] 57)).drew.cell? ⟨w.heap.size, i, none⟩ = some (.int .u64 (wantN a b i)) := by
    intro i hi
    change (w.alloc _).cell? _ = _
    simp only [World.cell?, heap_alloc_at]
    have hh : i = 0 ∨ i = 1 ∨ i = 2 ∨ i = 3 ∨ i = 4 ∨ i = 5 ∨ i = 6 ∨ i = 7 ∨ i = 8 ∨ i = 9 := by omega
    rcases hh with rfl | rfl | rfl | rfl | rfl | rfl | rfl | rfl | rfl | rfl
    · rw [show wantN a b 0 = v0 from by rw [wantN_eq, if_neg (fun h => by have := h.1; revert this; decide), HV0.out]]; rfl
    · rw [show wantN a b 1 = v1 from by rw [wantN_eq, if_neg (fun h => by have := h.1; revert this; decide), HV1.out]]; rfl
    · rw [show wantN a b 2 = v2 from by rw [wantN_eq, if_neg (fun h => by have := h.1; revert this; decide), HV2.out]]; rfl
    · rw [show wantN a b 3 = v3 from by rw [wantN_eq, if_neg (fun h => Hb0.out h.2), HV3.out]]; rfl
    · rw [show wantN a b 4 = v4 from by rw [wantN_eq, if_neg (fun h => Hb0.out h.2), HV4.out]]; rfl
    · rw [show wantN a b 5 = v5 from by rw [wantN_eq, if_neg (fun h => by have := h.1; revert this; decide), HV5.out]]; rfl
    · rw [show wantN a b 6 = v6 from by rw [wantN_eq, if_neg (fun h => by have := h.1; revert this; decide), HV6.out]]; rfl
    · rw [show wantN a b 7 = v7 from by rw [wantN_eq, if_neg (fun h => by have := h.1; revert this; decide), HV7.out]]; rfl
    · rw [show wantN a b 8 = v8 from by rw [wantN_eq, if_neg (fun h => by have := h.1; revert this; decide), HV8.out]]; rfl
    · rw [show wantN a b 9 = v9 from by rw [wantN_eq, if_neg (fun h => by have := h.1; revert this; decide), HV9.out]]; rfl
  have Hrow := Lib.hid Hrow
  have hB1 : Below w.heap.size w (w.alloc (.cells #[.int .u64 (v0 : Int), .int .u64 (v1 : Int), .int .u64 (v2 : Int), .int .u64 (v3 : Int), .int .u64 (v4 : Int), .int .u64 (v5 : Int), .int .u64 (v6 : Int), .int .u64 (v7 : Int), .int .u64 (v8 : Int), .int .u64 (v9 : Int)] 57)).drew := ((Below.refl _ _).alloc (Nat.le_refl _) _).drew
  have HBw := Lib.hid hB1
  have HG1 := Lib.hid (HG.out.keep hB1)
  have HS1 := Lib.hid (show w.heap.size + 1 = (w.alloc (.cells #[.int .u64 (v0 : Int), .int .u64 (v1 : Int), .int .u64 (v2 : Int), .int .u64 (v3 : Int), .int .u64 (v4 : Int), .int .u64 (v5 : Int), .int .u64 (v6 : Int), .int .u64 (v7 : Int), .int .u64 (v8 : Int), .int .u64 (v9 : Int)] 57)).drew.heap.size by show _ = (w.alloc _).heap.size; simp)
  clear hB1
  go_enter Tryz.func7, Tryz.ntmps7
  go_wp2_with fail
  go_region
  go_wp2_with (first
    | (go_at_call 59; (with_reducible refine (Ca.out _ HG1.out).mono ?_); rintro e w1 ⟨rfl, hb1⟩; have HB1 := Lib.hid hb1; have HG2 := Lib.hid (HG1.out.keep hb1); clear hb1 HG1)
    | (go_at_call 59; (with_reducible refine (Cb.out _ HG2.out).mono ?_); rintro e w2 ⟨rfl, hb2⟩; have HB2 := Lib.hid hb2; have HG3 := Lib.hid (HG2.out.keep hb2); clear hb2 HG2))
  have hB3 : Below (w.heap.size + 1) (w.alloc (.cells #[.int .u64 (v0 : Int), .int .u64 (v1 : Int), .int .u64 (v2 : Int), .int .u64 (v3 : Int), .int .u64 (v4 : Int), .int .u64 (v5 : Int), .int .u64 (v6 : Int), .int .u64 (v7 : Int), .int .u64 (v8 : Int), .int .u64 (v9 : Int)] 57)).drew w2 := by rw [HS1.out]; exact HB1.out.trans (HB2.out.mono HB1.out.size)
  have HB3 := Lib.hid hB3; clear hB3
  go_loopw [61] (fun i wr => ∃ k : Nat, i = .int .i64 k ∧ k ≤ 10 ∧ Below (w.heap.size + 1) (w.alloc (.cells #[.int .u64 (v0 : Int), .int .u64 (v1 : Int), .int .u64 (v2 : Int), .int .u64 (v3 : Int), .int .u64 (v4 : Int), .int .u64 (v5 : Int), .int .u64 (v6 : Int), .int .u64 (v7 : Int), .int .u64 (v8 : Int), .int .u64 (v9 : Int)] 57)).drew wr) (fun i _ => 10 - (intOf i).toNat)
  case atStart => exact ⟨0, rfl, by omega, HB3.out⟩
  case round =>
    obtain ⟨k, rfl, hk, hbl⟩ := hrel
    have hw := HBw.out.trans (hbl.mono (by omega))
    have HGr := Lib.hid (HG.out.keep hw)
    by_cases h10 : k < 10
    · have hc := (hbl.cell (p := ⟨w.heap.size, k, none⟩) (Nat.lt_succ_self _)).trans (Hrow.out k h10)
      have Hbl := Lib.hid hbl
      have hsz := hbl.size
      clear hbl hw
      have cw := Cw.out k h10 (fun _ => Hb0.out)
      have cn := fun w h => Cn.out k w h
      have hwk : wantN a b k = opN k a b := by rw [wantN_eq]; exact if_neg (fun h => Hb0.out h.2)
      rw [hwk] at hc cn
      obtain ⟨n, hn⟩ : ∃ n, opN k a b = n := ⟨_, rfl⟩
      rw [hn] at hc cw cn
      obtain ⟨T, hT⟩ : ∃ T, decT n = T := ⟨_, rfl⟩
      rw [hT] at cw cn
      clear hn hT hwk
      go_wp2_with (first
        | (go_at_call 57; (with_reducible refine (cw _ HGr.out).mono ?_); rintro e w5 ⟨rfl, hb5⟩; have HB5 := Lib.hid hb5; have HG5 := Lib.hid (HGr.out.keep hb5); clear hb5)
        | (go_at_call 59; (with_reducible refine (cn _ HG5.out).mono ?_); rintro e w6 ⟨rfl, hb6⟩; have HB6 := Lib.hid hb6; clear hb6))
      go_roundw
      case rel => exact ⟨k + 1, by go_num, by omega, Hbl.out.trans ((HB5.out.trans (HB6.out.mono HB5.out.size)).mono (by have := HS1.out; omega))⟩
      case measure => simp [intOf]; omega
    · have hk10 : k = 10 := by omega
      subst hk10
      clear h10 hbl
      have Hw := Lib.hid hw; clear hw
      go_wp2_with (go_at_call 10; (with_reducible refine (Haw.out _ HGr.out).mono ?_); rintro e w9 ⟨rfl, hb9⟩)
      go_ret
      exact ⟨rfl, Hw.out.trans (hb9.mono Hw.out.size)⟩

set_option maxHeartbeats 2000000 in
set_option maxRecDepth 100000 in
theorem words_lg (a b : Nat) (ha : a < 18446744073709551616) (hb : b < 18446744073709551616) (hb0 : b ≠ 0) (h64 : ¬ b < 64) (hawake : ∀ w, Gl w → Calls Tryz.prog 10 #[] w fun e w' => e = .returned (.bool true) ∧ Below w.heap.size w w') (w : World) (hg : Gl w) :
    Calls Tryz.prog 7 #[.int .u64 a, .int .u64 b] w fun e w' => e = .returned (.bool true) ∧ Below w.heap.size w w' := by
  have e0 := opE0 a b ha hb
  have e1 := opE1 a b ha hb
  have e2 := opE2 a b ha hb
  have e3 := opE3 a b ha hb
  have e4 := opE4 a b ha hb
  have e5 := opE5 a b ha hb
  have e6 := opE6 a b ha hb
  have e7 := opE7 a b ha hb
  have e8 := opE8 a b ha hb
  have e9 := opE9 a b ha hb
  have HG := Lib.hid hg
  have Ca := Lib.hid (fun w h => format_word a ha w h)
  have Cb := Lib.hid (fun w h => format_word b hb w h)
  have Haw := Lib.hid hawake
  have Cn := Lib.hid (fun i w h => format_word (wantN a b i) (wantN_lt a b i ha hb) w h)
  have Cz := Lib.hid (fun i hi h h0 w hg => bits_word0 i hi a b ha hb h h0 w hg)
  have Cw := Lib.hid (fun i hi h w hg => bits_word i hi a b ha hb h w hg)
  have d0 : ((b : Int) != 0) = true := by simp; omega
  have d0' : ((b : Int) == 0) = false := by simp; omega
  have hbi : (b : Int) ≠ 0 := by omega
  have hbp : 0 < (b : Int) := by omega
  have d64 : decide ((b : Int) < 64) = false := by simp; omega
  have HZ8 := Lib.hid (show opN 8 a b = 0 by show a * 2 ^ min b 64 % 18446744073709551616 = 0; rw [show min b 64 = 64 by omega]; exact Nat.mul_mod_left _ _)
  have HZ9 := Lib.hid (show opN 9 a b = 0 by show a / 2 ^ min b 64 = 0; rw [show min b 64 = 64 by omega]; exact Nat.div_eq_of_lt ha)
  obtain ⟨v0, hv0⟩ : ∃ v, opN 0 a b = v := ⟨_, rfl⟩
  rw [hv0] at e0
  have HV0 := Lib.hid hv0; clear hv0
  obtain ⟨v1, hv1⟩ : ∃ v, opN 1 a b = v := ⟨_, rfl⟩
  rw [hv1] at e1
  have HV1 := Lib.hid hv1; clear hv1
  obtain ⟨v2, hv2⟩ : ∃ v, opN 2 a b = v := ⟨_, rfl⟩
  rw [hv2] at e2
  have HV2 := Lib.hid hv2; clear hv2
  obtain ⟨v3, hv3⟩ : ∃ v, opN 3 a b = v := ⟨_, rfl⟩
  rw [hv3] at e3
  have HV3 := Lib.hid hv3; clear hv3
  obtain ⟨v4, hv4⟩ : ∃ v, opN 4 a b = v := ⟨_, rfl⟩
  rw [hv4] at e4
  have HV4 := Lib.hid hv4; clear hv4
  obtain ⟨v5, hv5⟩ : ∃ v, opN 5 a b = v := ⟨_, rfl⟩
  rw [hv5] at e5
  have HV5 := Lib.hid hv5; clear hv5
  obtain ⟨v6, hv6⟩ : ∃ v, opN 6 a b = v := ⟨_, rfl⟩
  rw [hv6] at e6
  have HV6 := Lib.hid hv6; clear hv6
  obtain ⟨v7, hv7⟩ : ∃ v, opN 7 a b = v := ⟨_, rfl⟩
  rw [hv7] at e7
  have HV7 := Lib.hid hv7; clear hv7
  obtain ⟨v8, hv8⟩ : ∃ v, opN 8 a b = v := ⟨_, rfl⟩
  rw [hv8] at e8
  have HV8 := Lib.hid hv8; clear hv8
  obtain ⟨v9, hv9⟩ : ∃ v, opN 9 a b = v := ⟨_, rfl⟩
  rw [hv9] at e9
  have HV9 := Lib.hid hv9; clear hv9
  have Hb0 := Lib.hid hb0; clear hb0
  clear hg hawake
  have Hrow : ∀ i, i < 10 → (w.alloc (.cells #[.int .u64 (v0 : Int), .int .u64 (v1 : Int), .int .u64 (v2 : Int), .int .u64 (v3 : Int), .int .u64 (v4 : Int), .int .u64 (v5 : Int), .int .u64 (v6 : Int), .int .u64 (v7 : Int), .int .u64 0, .int .u64 0] 57)).drew.cell? ⟨w.heap.size, i, none⟩ = some (.int .u64 (wantN a b i)) := by
    intro i hi
    change (w.alloc _).cell? _ = _
    simp only [World.cell?, heap_alloc_at]
    have hh : i = 0 ∨ i = 1 ∨ i = 2 ∨ i = 3 ∨ i = 4 ∨ i = 5 ∨ i = 6 ∨ i = 7 ∨ i = 8 ∨ i = 9 := by omega
    rcases hh with rfl | rfl | rfl | rfl | rfl | rfl | rfl | rfl | rfl | rfl
    · rw [show wantN a b 0 = v0 from by rw [wantN_eq, if_neg (fun h => by have := h.1; revert this; decide), HV0.out]]; rfl
    · rw [show wantN a b 1 = v1 from by rw [wantN_eq, if_neg (fun h => by have := h.1; revert this; decide), HV1.out]]; rfl
    · rw [show wantN a b 2 = v2 from by rw [wantN_eq, if_neg (fun h => by have := h.1; revert this; decide), HV2.out]]; rfl
    · rw [show wantN a b 3 = v3 from by rw [wantN_eq, if_neg (fun h => Hb0.out h.2), HV3.out]]; rfl
    · rw [show wantN a b 4 = v4 from by rw [wantN_eq, if_neg (fun h => Hb0.out h.2), HV4.out]]; rfl
    · rw [show wantN a b 5 = v5 from by rw [wantN_eq, if_neg (fun h => by have := h.1; revert this; decide), HV5.out]]; rfl
    · rw [show wantN a b 6 = v6 from by rw [wantN_eq, if_neg (fun h => by have := h.1; revert this; decide), HV6.out]]; rfl
    · rw [show wantN a b 7 = v7 from by rw [wantN_eq, if_neg (fun h => by have := h.1; revert this; decide), HV7.out]]; rfl
    · rw [show wantN a b 8 = v8 from by rw [wantN_eq, if_neg (fun h => by have := h.1; revert this; decide), HV8.out]]; rw [← HV8.out, HZ8.out]; rfl
    · rw [show wantN a b 9 = v9 from by rw [wantN_eq, if_neg (fun h => by have := h.1; revert this; decide), HV9.out]]; rw [← HV9.out, HZ9.out]; rfl
  have Hrow := Lib.hid Hrow
  have hB1 : Below w.heap.size w (w.alloc (.cells #[.int .u64 (v0 : Int), .int .u64 (v1 : Int), .int .u64 (v2 : Int), .int .u64 (v3 : Int), .int .u64 (v4 : Int), .int .u64 (v5 : Int), .int .u64 (v6 : Int), .int .u64 (v7 : Int), .int .u64 0, .int .u64 0] 57)).drew := ((Below.refl _ _).alloc (Nat.le_refl _) _).drew
  have HBw := Lib.hid hB1
  have HG1 := Lib.hid (HG.out.keep hB1)
  have HS1 := Lib.hid (show w.heap.size + 1 = (w.alloc (.cells #[.int .u64 (v0 : Int), .int .u64 (v1 : Int), .int .u64 (v2 : Int), .int .u64 (v3 : Int), .int .u64 (v4 : Int), .int .u64 (v5 : Int), .int .u64 (v6 : Int), .int .u64 (v7 : Int), .int .u64 0, .int .u64 0] 57)).drew.heap.size by show _ = (w.alloc _).heap.size; simp)
  clear hB1
  go_enter Tryz.func7, Tryz.ntmps7
  go_wp2_with fail
  go_region
  go_wp2_with (first
    | (go_at_call 59; (with_reducible refine (Ca.out _ HG1.out).mono ?_); rintro e w1 ⟨rfl, hb1⟩; have HB1 := Lib.hid hb1; have HG2 := Lib.hid (HG1.out.keep hb1); clear hb1 HG1)
    | (go_at_call 59; (with_reducible refine (Cb.out _ HG2.out).mono ?_); rintro e w2 ⟨rfl, hb2⟩; have HB2 := Lib.hid hb2; have HG3 := Lib.hid (HG2.out.keep hb2); clear hb2 HG2))
  have hB3 : Below (w.heap.size + 1) (w.alloc (.cells #[.int .u64 (v0 : Int), .int .u64 (v1 : Int), .int .u64 (v2 : Int), .int .u64 (v3 : Int), .int .u64 (v4 : Int), .int .u64 (v5 : Int), .int .u64 (v6 : Int), .int .u64 (v7 : Int), .int .u64 0, .int .u64 0] 57)).drew w2 := by rw [HS1.out]; exact HB1.out.trans (HB2.out.mono HB1.out.size)
  have HB3 := Lib.hid hB3; clear hB3
  go_loopw [61] (fun i wr => ∃ k : Nat, i = .int .i64 k ∧ k ≤ 10 ∧ Below (w.heap.size + 1) (w.alloc (.cells #[.int .u64 (v0 : Int), .int .u64 (v1 : Int), .int .u64 (v2 : Int), .int .u64 (v3 : Int), .int .u64 (v4 : Int), .int .u64 (v5 : Int), .int .u64 (v6 : Int), .int .u64 (v7 : Int), .int .u64 0, .int .u64 0] 57)).drew wr) (fun i _ => 10 - (intOf i).toNat)
  case atStart => exact ⟨0, rfl, by omega, HB3.out⟩
  case round =>
    obtain ⟨k, rfl, hk, hbl⟩ := hrel
    have hw := HBw.out.trans (hbl.mono (by omega))
    have HGr := Lib.hid (HG.out.keep hw)
    by_cases h10 : k < 10
    · have hc := (hbl.cell (p := ⟨w.heap.size, k, none⟩) (Nat.lt_succ_self _)).trans (Hrow.out k h10)
      have Hbl := Lib.hid hbl
      have hsz := hbl.size
      clear hbl hw
      have cw := Cw.out k h10 (fun _ => Hb0.out)
      have cn := fun w h => Cn.out k w h
      have hwk : wantN a b k = opN k a b := by rw [wantN_eq]; exact if_neg (fun h => Hb0.out h.2)
      rw [hwk] at hc cn
      obtain ⟨n, hn⟩ : ∃ n, opN k a b = n := ⟨_, rfl⟩
      rw [hn] at hc cw cn
      obtain ⟨T, hT⟩ : ∃ T, decT n = T := ⟨_, rfl⟩
      rw [hT] at cw cn
      clear hn hT hwk
      go_wp2_with (first
        | (go_at_call 57; (with_reducible refine (cw _ HGr.out).mono ?_); rintro e w5 ⟨rfl, hb5⟩; have HB5 := Lib.hid hb5; have HG5 := Lib.hid (HGr.out.keep hb5); clear hb5)
        | (go_at_call 59; (with_reducible refine (cn _ HG5.out).mono ?_); rintro e w6 ⟨rfl, hb6⟩; have HB6 := Lib.hid hb6; clear hb6))
      go_roundw
      case rel => exact ⟨k + 1, by go_num, by omega, Hbl.out.trans ((HB5.out.trans (HB6.out.mono HB5.out.size)).mono (by have := HS1.out; omega))⟩
      case measure => simp [intOf]; omega
    · have hk10 : k = 10 := by omega
      subst hk10
      clear h10 hbl
      have Hw := Lib.hid hw; clear hw
      go_wp2_with (go_at_call 10; (with_reducible refine (Haw.out _ HGr.out).mono ?_); rintro e w9 ⟨rfl, hb9⟩)
      go_ret
      exact ⟨rfl, Hw.out.trans (hb9.mono Hw.out.size)⟩
end Go.Proofs.YtpbegoflpfdajaaGreatDoor

namespace Go.Proofs.YtpbegoflpfdajaaGreatDoor
open Go.RowKit

/-- the law of words, over what awake answers -/
theorem words_any (a b : Nat) (ha : a < 18446744073709551616) (hb : b < 18446744073709551616) (hawake : ∀ w, Gl w → Calls Tryz.prog 10 #[] w fun e w' => e = .returned (.bool true) ∧ Below w.heap.size w w') (w : World) (hg : Gl w) :
    Calls Tryz.prog 7 #[.int .u64 a, .int .u64 b] w fun e w' => e = .returned (.bool true) ∧ Below w.heap.size w w' := by
  by_cases h0 : b = 0
  · exact words_b0 a b ha hb h0 hawake w hg
  · by_cases h64 : b < 64
    · exact words_sm a b ha hb h0 h64 hawake w hg
    · exact words_lg a b ha hb h0 h64 hawake w hg
end Go.Proofs.YtpbegoflpfdajaaGreatDoor

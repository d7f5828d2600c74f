/- WHAT IS PROVED: contracts of functions of the numbers package and laws for them, used by the last text of this claim. CONDITIONS: stated at each theorem. -/
import Derived.Test.YtpbegoflpfdajaaGreatDoorN46
import Derived.Test.YtpbegoflpfdajaaGreatDoorN47
import Derived.Test.YtpbegoflpfdajaaGreatDoorN39
namespace Go.Proofs.YtpbegoflpfdajaaGreatDoor
open Go.RowKit
open Go.Lib (decDigits nDigits decDigits_length)

theorem mul_abs_lt2 {a b : Int} {k m : Nat} (ha : a.natAbs < 10 ^ k) (hb : b.natAbs < 10 ^ m) : (a * b).natAbs < 10 ^ (k + m) := by
  rw [Int.natAbs_mul, Nat.pow_add]; exact Nat.mul_lt_mul'' ha hb
/-- a short fraction's parts -/
theorem q_small {x : ByteArray} (h : Okq x) (hs : x.size ≤ 60) : frN x.data.toList < 10 ^ 58 ∧ frD x.data.toList < 10 ^ 58 := by
  have k := ckR_ok h
  have hl := congrArg List.length (cut_found k.found)
  obtain ⟨u1, _, _, _⟩ := okz_parts k.up
  obtain ⟨l1, _, _, _⟩ := okz_parts k.lo
  have key : ∀ l : List UInt8, ckL l = 0 → l.length ≤ 58 → intM l < 10 ^ 58 := fun l hl hn => by
    have := vz_lt (x := ⟨l.toArray⟩) hl 58 (by show l.toArray.size ≤ 58; simpa using hn)
    rwa [vz_abs] at this
  have nm : ∀ l : List UInt8, (noMinus l).length ≤ l.length := fun l => by
    rcases noMinus_cases l with ⟨t, ht, hn⟩ | ⟨_, hn⟩
    · rw [hn, ht]; simp
    · rw [hn]; omega
  have a1 := nm (upT x.data.toList)
  have a2 := nm (loT x.data.toList)
  rw [List.length_append, List.length_cons] at hl
  have hx : x.data.toList.length = x.size := by simp
  exact ⟨key _ k.up (by omega), key _ k.lo (by omega)⟩
theorem pows : (10:Nat) ^ (58 + 58) + 10 ^ (58 + 58) < 10 ^ 120 ∧ (10:Nat) ^ 58 < 10 ^ 60 ∧ (10:Nat) ^ 61 + 1 < 10 ^ 120 ∧ (1:Nat) < 10 ^ 120 := by decide
theorem fit_of {x y : ByteArray} (hx : Okq x) (hy : Okq y) (sx : x.size ≤ 60) (sy : y.size ≤ 60) : Fit (vq x + vq y) ∧ Fit (vq x - vq y) ∧ Fit (vq x * vq y) ∧ frN x.data.toList * frD y.data.toList < 10 ^ 120 ∧ frD x.data.toList * frN y.data.toList < 10 ^ 120 := by
  obtain ⟨p1, p2⟩ := q_small hx sx
  obtain ⟨r1, r2⟩ := q_small hy sy
  obtain ⟨z1, _⟩ := pows
  have nd := Nat.mul_ne_zero (okq_nz hx) (okq_nz hy)
  have bd : frD x.data.toList * frD y.data.toList < 10 ^ (58 + 58) := by rw [Nat.pow_add]; exact Nat.mul_lt_mul'' p2 r2
  have b1 : frN x.data.toList * frD y.data.toList < 10 ^ (58 + 58) := by rw [Nat.pow_add]; exact Nat.mul_lt_mul'' p1 r2
  have b2 : frN y.data.toList * frD x.data.toList < 10 ^ (58 + 58) := by rw [Nat.pow_add]; exact Nat.mul_lt_mul'' r1 p2
  have b3 : frN x.data.toList * frN y.data.toList < 10 ^ (58 + 58) := by rw [Nat.pow_add]; exact Nat.mul_lt_mul'' p1 r1
  have e1 : (sgn (frN x.data.toList) (frS x.data.toList) * (frD y.data.toList : Int)).natAbs = frN x.data.toList * frD y.data.toList := by rw [Int.natAbs_mul, sgn_abs]; rfl
  have e2 : (sgn (frN y.data.toList) (frS y.data.toList) * (frD x.data.toList : Int)).natAbs = frN y.data.toList * frD x.data.toList := by rw [Int.natAbs_mul, sgn_abs]; rfl
  have e3 : (-sgn (frN y.data.toList) (frS y.data.toList) * (frD x.data.toList : Int)).natAbs = frN y.data.toList * frD x.data.toList := by rw [Int.natAbs_mul, Int.natAbs_neg, sgn_abs]; rfl
  have e4 : (sgn (frN x.data.toList) (frS x.data.toList) * sgn (frN y.data.toList) (frS y.data.toList)).natAbs = frN x.data.toList * frN y.data.toList := by rw [Int.natAbs_mul, sgn_abs, sgn_abs]
  refine ⟨?_, ?_, ?_, by omega, by rw [Nat.mul_comm]; omega⟩
  · unfold vq
    rw [Rat.mkRat_add_mkRat _ _ (okq_nz hx) (okq_nz hy)]
    exact mk_fit _ _ nd (by omega) (by omega)
  · unfold vq
    rw [Rat.sub_eq_add_neg, Rat.neg_mkRat, Rat.mkRat_add_mkRat _ _ (okq_nz hx) (okq_nz hy)]
    exact mk_fit _ _ nd (by omega) (by omega)
  · unfold vq
    rw [Rat.mkRat_mul_mkRat]
    exact mk_fit _ _ nd (by omega) (by omega)
theorem tz_size {z : Int} (h : z.natAbs < 10 ^ 120) : (tz z).size ≤ 200 := by
  have := nD_fit h
  show (sgText z.natAbs (decide (z < 0))).toArray.size ≤ 200
  rw [List.size_toArray]
  unfold sgText
  split
  · rw [List.length_cons, decDigits_length]; omega
  · rw [decDigits_length]; omega
theorem tq_size {r : Rat} (h : Fit r) : (tq r).size < 4294967281 := by
  have h1 := nD_fit h.1
  have h2 := nD_fit h.2
  show (frText r.num.natAbs (decide (r.num < 0)) r.den false).toArray.size < 4294967281
  rw [List.size_toArray]
  unfold frText
  have key : ∀ n s, nDigits n ≤ 120 → (sgText n s).length ≤ 121 := fun n s h => by
    unfold sgText; split
    · rw [List.length_cons, decDigits_length]; omega
    · rw [decDigits_length]; omega
  have k1 := key r.num.natAbs (decide (r.num < 0)) h1
  have k2 := key r.den false h2
  rw [List.length_append, List.length_cons]; omega
theorem one_text : sgText 1 false = [49] := by unfold sgText; rw [if_neg (by decide), Lib.decDigits_one (by omega)]; rfl
/-- an integer as a fraction -/
theorem tq_int (n : Int) : (tz n ++ ⟨#[47, 49]⟩ : ByteArray) = tq (n : Rat) := by
  unfold tq frText tz
  rw [Rat.num_intCast, Rat.den_intCast, one_text]
  apply ByteArray.ext
  simp
theorem fit_int {n : Int} (h : n.natAbs < 10 ^ 120) : Fit (n : Rat) := ⟨by rw [Rat.num_intCast]; exact h, by rw [Rat.den_intCast]; exact pows.2.2.2⟩
theorem zero_text : (⟨#[48, 47, 49]⟩ : ByteArray) = tq 0 := by
  have := tq_int 0
  rw [tz_zero] at this
  rw [show ((0 : Int) : Rat) = 0 from rfl] at this
  rw [← this]; rfl
theorem one_tz : (⟨#[49]⟩ : ByteArray) = tz 1 := by
  unfold tz; rw [show (1 : Int).natAbs = 1 from rfl, show decide ((1 : Int) < 0) = false by decide, one_text]
theorem ba_ne2 {x y : ByteArray} (h : x ≠ y) : (x.toList == y.toList) = false := by
  simp only [beq_eq_false_iff_ne, ne_eq, toList_data']
  intro e
  exact h (ByteArray.ext (Array.toList_inj.1 e))
theorem resQ_any (r : Rat) : ∃ T E, resQ r = .tuple #[.string T, .int .i64 E] := ⟨_, _, rfl⟩
/-- same, of one result and itself -/
theorem same_any (x : ByteArray) (E : Int) (w : World) (_ : Gl w) : Calls Tryz.prog 61 #[.string x, .int .i64 E, .string x, .int .i64 E] w fun e w' => e = .returned (.bool true) ∧ Below w.heap.size w w' := by
  by_cases h : E = 0
  · have d : (E != 0) = false := by simpa using h
    go_enter Tryz.func61, Tryz.ntmps61
    go_wp2_with fail
    go_ret
    exact ⟨rfl, Below.refl _ _⟩
  · have d : (E != 0) = true := by simpa using h
    go_enter Tryz.func61, Tryz.ntmps61
    go_wp2_with fail
    go_ret
    exact ⟨rfl, Below.refl _ _⟩
end Go.Proofs.YtpbegoflpfdajaaGreatDoor

namespace Go.Proofs.YtpbegoflpfdajaaGreatDoor
open Go.RowKit

set_option maxHeartbeats 2000000 in
set_option maxRecDepth 20000 in
theorem field_e0 (a b c : ByteArray) 
    (d0 : decide ((60 : Int) < (a.size : Int)) = true)
    (C0 : ∀ w, Gl w → Calls Tryz.prog 10 #[] w fun e w' => e = .returned (.bool true) ∧ Below w.heap.size w w')
    (C1 : ∀ w, Gl w → Calls Tryz.prog 10 #[] w fun e w' => e = .returned (.bool true) ∧ Below w.heap.size w w')
    (w : World) (hg : Gl w) : Calls Tryz.prog 9 #[.string a, .string b, .string c] w fun e w' => e = .returned (.bool true) ∧ Below w.heap.size w w' := by
  have D0 := Lib.hid C0; clear C0
  have D1 := Lib.hid C1; clear C1
  have G0 := Lib.hid hg
  have B0 := Lib.hid (Below.refl w.heap.size w); clear hg
  go_enter Tryz.func9, Tryz.ntmps9
  go_wp2_with (first
    | (go_at_call 10; (with_reducible refine (D0.out _ G0.out).mono ?_); rintro e w1 ⟨rfl, hb⟩; have B1 := Lib.hid (B0.out.trans (hb.mono B0.out.size)); have G1 := Lib.hid (G0.out.keep hb); clear hb B0 G0)
    | (go_at_call 10; (with_reducible refine (D1.out _ G1.out).mono ?_); rintro e w2 ⟨rfl, hb⟩; have B2 := Lib.hid (B1.out.trans (hb.mono B1.out.size)); have G2 := Lib.hid (G1.out.keep hb); clear hb B1 G1))
  go_ret
  exact ⟨rfl, B2.out⟩
set_option maxHeartbeats 2000000 in
set_option maxRecDepth 20000 in
theorem field_e1 (a b c : ByteArray) 
    (d0 : decide ((60 : Int) < (a.size : Int)) = false)
    (d1 : decide ((60 : Int) < (b.size : Int)) = true)
    (C0 : ∀ w, Gl w → Calls Tryz.prog 10 #[] w fun e w' => e = .returned (.bool true) ∧ Below w.heap.size w w')
    (C1 : ∀ w, Gl w → Calls Tryz.prog 10 #[] w fun e w' => e = .returned (.bool true) ∧ Below w.heap.size w w')
    (w : World) (hg : Gl w) : Calls Tryz.prog 9 #[.string a, .string b, .string c] w fun e w' => e = .returned (.bool true) ∧ Below w.heap.size w w' := by
  have D0 := Lib.hid C0; clear C0
  have D1 := Lib.hid C1; clear C1
  have G0 := Lib.hid hg
  have B0 := Lib.hid (Below.refl w.heap.size w); clear hg
  go_enter Tryz.func9, Tryz.ntmps9
  go_wp2_with (first
    | (go_at_call 10; (with_reducible refine (D0.out _ G0.out).mono ?_); rintro e w1 ⟨rfl, hb⟩; have B1 := Lib.hid (B0.out.trans (hb.mono B0.out.size)); have G1 := Lib.hid (G0.out.keep hb); clear hb B0 G0)
    | (go_at_call 10; (with_reducible refine (D1.out _ G1.out).mono ?_); rintro e w2 ⟨rfl, hb⟩; have B2 := Lib.hid (B1.out.trans (hb.mono B1.out.size)); have G2 := Lib.hid (G1.out.keep hb); clear hb B1 G1))
  go_ret
  exact ⟨rfl, B2.out⟩
set_option maxHeartbeats 2000000 in
set_option maxRecDepth 20000 in
theorem field_e2 (a b c : ByteArray) 
    (d0 : decide ((60 : Int) < (a.size : Int)) = false)
    (d1 : decide ((60 : Int) < (b.size : Int)) = false)
    (d2 : decide ((60 : Int) < (c.size : Int)) = true)
    (C0 : ∀ w, Gl w → Calls Tryz.prog 10 #[] w fun e w' => e = .returned (.bool true) ∧ Below w.heap.size w w')
    (C1 : ∀ w, Gl w → Calls Tryz.prog 10 #[] w fun e w' => e = .returned (.bool true) ∧ Below w.heap.size w w')
    (w : World) (hg : Gl w) : Calls Tryz.prog 9 #[.string a, .string b, .string c] w fun e w' => e = .returned (.bool true) ∧ Below w.heap.size w w' := by
  have D0 := Lib.hid C0; clear C0
  have D1 := Lib.hid C1; clear C1
  have G0 := Lib.hid hg
  have B0 := Lib.hid (Below.refl w.heap.size w); clear hg
  go_enter Tryz.func9, Tryz.ntmps9
  go_wp2_with (first
    | (go_at_call 10; (with_reducible refine (D0.out _ G0.out).mono ?_); rintro e w1 ⟨rfl, hb⟩; have B1 := Lib.hid (B0.out.trans (hb.mono B0.out.size)); have G1 := Lib.hid (G0.out.keep hb); clear hb B0 G0)
    | (go_at_call 10; (with_reducible refine (D1.out _ G1.out).mono ?_); rintro e w2 ⟨rfl, hb⟩; have B2 := Lib.hid (B1.out.trans (hb.mono B1.out.size)); have G2 := Lib.hid (G1.out.keep hb); clear hb B1 G1))
  go_ret
  exact ⟨rfl, B2.out⟩
set_option maxHeartbeats 2000000 in
set_option maxRecDepth 20000 in
theorem field_e3 (a b c : ByteArray) (E : Int) 
    (d0 : decide ((60 : Int) < (a.size : Int)) = false)
    (d1 : decide ((60 : Int) < (b.size : Int)) = false)
    (d2 : decide ((60 : Int) < (c.size : Int)) = false)
    (dE : (E != 0) = true)
    (C0 : ∀ w, Gl w → Calls Tryz.prog 10 #[] w fun e w' => e = .returned (.bool true) ∧ Below w.heap.size w w')
    (C1 : ∀ w, Gl w → Calls Tryz.prog 45 #[.string a] w fun e w' => e = .returned (.int .i64 E) ∧ Below w.heap.size w w')
    (C2 : ∀ w, Gl w → Calls Tryz.prog 10 #[] w fun e w' => e = .returned (.bool true) ∧ Below w.heap.size w w')
    (w : World) (hg : Gl w) : Calls Tryz.prog 9 #[.string a, .string b, .string c] w fun e w' => e = .returned (.bool true) ∧ Below w.heap.size w w' := by
  have D0 := Lib.hid C0; clear C0
  have D1 := Lib.hid C1; clear C1
  have D2 := Lib.hid C2; clear C2
  have G0 := Lib.hid hg
  have B0 := Lib.hid (Below.refl w.heap.size w); clear hg
  go_enter Tryz.func9, Tryz.ntmps9
  go_wp2_with (first
    | (go_at_call 10; (with_reducible refine (D0.out _ G0.out).mono ?_); rintro e w1 ⟨rfl, hb⟩; have B1 := Lib.hid (B0.out.trans (hb.mono B0.out.size)); have G1 := Lib.hid (G0.out.keep hb); clear hb B0 G0)
    | (go_at_call 45; (with_reducible refine (D1.out _ G1.out).mono ?_); rintro e w2 ⟨rfl, hb⟩; have B2 := Lib.hid (B1.out.trans (hb.mono B1.out.size)); have G2 := Lib.hid (G1.out.keep hb); clear hb B1 G1)
    | (go_at_call 10; (with_reducible refine (D2.out _ G2.out).mono ?_); rintro e w3 ⟨rfl, hb⟩; have B3 := Lib.hid (B2.out.trans (hb.mono B2.out.size)); have G3 := Lib.hid (G2.out.keep hb); clear hb B2 G2))
  go_ret
  exact ⟨rfl, B3.out⟩
set_option maxHeartbeats 2000000 in
set_option maxRecDepth 20000 in
theorem field_e4 (a b c : ByteArray) (E : Int) 
    (d0 : decide ((60 : Int) < (a.size : Int)) = false)
    (d1 : decide ((60 : Int) < (b.size : Int)) = false)
    (d2 : decide ((60 : Int) < (c.size : Int)) = false)
    (dE : (E != 0) = true)
    (C0 : ∀ w, Gl w → Calls Tryz.prog 10 #[] w fun e w' => e = .returned (.bool true) ∧ Below w.heap.size w w')
    (C1 : ∀ w, Gl w → Calls Tryz.prog 45 #[.string a] w fun e w' => e = .returned (.int .i64 0) ∧ Below w.heap.size w w')
    (C2 : ∀ w, Gl w → Calls Tryz.prog 45 #[.string b] w fun e w' => e = .returned (.int .i64 E) ∧ Below w.heap.size w w')
    (C3 : ∀ w, Gl w → Calls Tryz.prog 10 #[] w fun e w' => e = .returned (.bool true) ∧ Below w.heap.size w w')
    (w : World) (hg : Gl w) : Calls Tryz.prog 9 #[.string a, .string b, .string c] w fun e w' => e = .returned (.bool true) ∧ Below w.heap.size w w' := by
  have D0 := Lib.hid C0; clear C0
  have D1 := Lib.hid C1; clear C1
  have D2 := Lib.hid C2; clear C2
  have D3 := Lib.hid C3; clear C3
  have G0 := Lib.hid hg
  have B0 := Lib.hid (Below.refl w.heap.size w); clear hg
  go_enter Tryz.func9, Tryz.ntmps9
  go_wp2_with (first
    | (go_at_call 10; (with_reducible refine (D0.out _ G0.out).mono ?_); rintro e w1 ⟨rfl, hb⟩; have B1 := Lib.hid (B0.out.trans (hb.mono B0.out.size)); have G1 := Lib.hid (G0.out.keep hb); clear hb B0 G0)
    | (go_at_call 45; (with_reducible refine (D1.out _ G1.out).mono ?_); rintro e w2 ⟨rfl, hb⟩; have B2 := Lib.hid (B1.out.trans (hb.mono B1.out.size)); have G2 := Lib.hid (G1.out.keep hb); clear hb B1 G1)
    | (go_at_call 45; (with_reducible refine (D2.out _ G2.out).mono ?_); rintro e w3 ⟨rfl, hb⟩; have B3 := Lib.hid (B2.out.trans (hb.mono B2.out.size)); have G3 := Lib.hid (G2.out.keep hb); clear hb B2 G2)
    | (go_at_call 10; (with_reducible refine (D3.out _ G3.out).mono ?_); rintro e w4 ⟨rfl, hb⟩; have B4 := Lib.hid (B3.out.trans (hb.mono B3.out.size)); have G4 := Lib.hid (G3.out.keep hb); clear hb B3 G3))
  go_ret
  exact ⟨rfl, B4.out⟩
set_option maxHeartbeats 2000000 in
set_option maxRecDepth 20000 in
theorem field_e5 (a b c : ByteArray) (E : Int) 
    (d0 : decide ((60 : Int) < (a.size : Int)) = false)
    (d1 : decide ((60 : Int) < (b.size : Int)) = false)
    (d2 : decide ((60 : Int) < (c.size : Int)) = false)
    (dE : (E != 0) = true)
    (C0 : ∀ w, Gl w → Calls Tryz.prog 10 #[] w fun e w' => e = .returned (.bool true) ∧ Below w.heap.size w w')
    (C1 : ∀ w, Gl w → Calls Tryz.prog 45 #[.string a] w fun e w' => e = .returned (.int .i64 0) ∧ Below w.heap.size w w')
    (C2 : ∀ w, Gl w → Calls Tryz.prog 45 #[.string b] w fun e w' => e = .returned (.int .i64 0) ∧ Below w.heap.size w w')
    (C3 : ∀ w, Gl w → Calls Tryz.prog 45 #[.string c] w fun e w' => e = .returned (.int .i64 E) ∧ Below w.heap.size w w')
    (C4 : ∀ w, Gl w → Calls Tryz.prog 10 #[] w fun e w' => e = .returned (.bool true) ∧ Below w.heap.size w w')
    (w : World) (hg : Gl w) : Calls Tryz.prog 9 #[.string a, .string b, .string c] w fun e w' => e = .returned (.bool true) ∧ Below w.heap.size w w' := by
  have D0 := Lib.hid C0; clear C0
  have D1 := Lib.hid C1; clear C1
  have D2 := Lib.hid C2; clear C2
  have D3 := Lib.hid C3; clear C3
  have D4 := Lib.hid C4; clear C4
  have G0 := Lib.hid hg
  have B0 := Lib.hid (Below.refl w.heap.size w); clear hg
  go_enter Tryz.func9, Tryz.ntmps9
  go_wp2_with (first
    | (go_at_call 10; (with_reducible refine (D0.out _ G0.out).mono ?_); rintro e w1 ⟨rfl, hb⟩; have B1 := Lib.hid (B0.out.trans (hb.mono B0.out.size)); have G1 := Lib.hid (G0.out.keep hb); clear hb B0 G0)
    | (go_at_call 45; (with_reducible refine (D1.out _ G1.out).mono ?_); rintro e w2 ⟨rfl, hb⟩; have B2 := Lib.hid (B1.out.trans (hb.mono B1.out.size)); have G2 := Lib.hid (G1.out.keep hb); clear hb B1 G1)
    | (go_at_call 45; (with_reducible refine (D2.out _ G2.out).mono ?_); rintro e w3 ⟨rfl, hb⟩; have B3 := Lib.hid (B2.out.trans (hb.mono B2.out.size)); have G3 := Lib.hid (G2.out.keep hb); clear hb B2 G2)
    | (go_at_call 45; (with_reducible refine (D3.out _ G3.out).mono ?_); rintro e w4 ⟨rfl, hb⟩; have B4 := Lib.hid (B3.out.trans (hb.mono B3.out.size)); have G4 := Lib.hid (G3.out.keep hb); clear hb B3 G3)
    | (go_at_call 10; (with_reducible refine (D4.out _ G4.out).mono ?_); rintro e w5 ⟨rfl, hb⟩; have B5 := Lib.hid (B4.out.trans (hb.mono B4.out.size)); have G5 := Lib.hid (G4.out.keep hb); clear hb B4 G4))
  go_ret
  exact ⟨rfl, B5.out⟩
theorem checkR_ok {x : ByteArray} (h : Okq x) (hs : x.size ≤ 60) (w : World) (hg : Gl w) : Calls Tryz.prog 45 #[.string x] w fun e w' => e = .returned (.int .i64 0) ∧ Below w.heap.size w w' := by
  have := checkReal_any x (by omega) w hg; rwa [show ckR x.data.toList = 0 from h] at this
set_option maxHeartbeats 4000000 in
/-- the law of fields, at three fractions of at most 60 bytes -/
theorem field_ok (a b c : ByteArray) (ha : Okq a) (hb : Okq b) (hc : Okq c) (sa : a.size ≤ 60) (sb : b.size ≤ 60) (sc : c.size ≤ 60) (w : World) (hg : Gl w) :
    Calls Tryz.prog 9 #[.string a, .string b, .string c] w fun e w' => e = .returned (.bool true) ∧ Below w.heap.size w w' := by
  obtain ⟨z1, z2, z3, z4⟩ := pows
  obtain ⟨fab, fmi, fp, fd1, fd2⟩ := fit_of ha hb sa sb
  obtain ⟨fbc, _, _, _, _⟩ := fit_of hb hc sb sc
  obtain ⟨_, _, fs, _, _⟩ := fit_of ha hc sa sc
  obtain ⟨oab, vab⟩ := okq_tq fab
  obtain ⟨obc, vbc⟩ := okq_tq fbc
  obtain ⟨op, vp⟩ := okq_tq fp
  obtain ⟨os, vs⟩ := okq_tq fs
  obtain ⟨omi, vmi⟩ := okq_tq fmi
  have sab := tq_size fab
  have sbc := tq_size fbc
  have sp := tq_size fp
  have ss := tq_size fs
  have smi := tq_size fmi
  have fz : Fit 0 := fit_int (n := 0) (by decide)
  obtain ⟨oz, vz0⟩ := okq_tq fz
  rw [← zero_text] at oz vz0
  have ba : a.size < 4294967281 := by omega
  have bb2 : b.size < 4294967281 := by omega
  have bc2 : c.size < 4294967281 := by omega
  have C0 := awake_any
  have C1 := fun w g => checkR_ok ha sa w g
  have C2 := fun w g => checkR_ok hb sb w g
  have C3 := fun w g => checkR_ok hc sc w g
  have C4 := fun w g => addQ ha hb ba bb2 rfl w g
  have C5 := fun w g => addQ hb hc bb2 bc2 rfl w g
  have C6 := fun w g => addQ (r := vq a + vq b + vq c) oab hc sab bc2 (by rw [vab]) w g
  have C7 := fun w g => addQ (r := vq a + vq b + vq c) ha obc ba sbc (by rw [vbc, Rat.add_assoc]) w g
  have C8 := fun w g => mulQ ha hb ba bb2 rfl w g
  have C9 := fun w g => mulQ (r := vq a * vq b) hb ha bb2 ba (Rat.mul_comm _ _) w g
  have C11 := fun w g => mulQ (r := vq a * (vq b + vq c)) ha obc ba sbc (by rw [vbc]) w g
  have C12 := fun w g => mulQ ha hc ba bc2 rfl w g
  have C13 := fun w g => addQ (r := vq a * (vq b + vq c)) op os sp ss (by rw [vp, vs, Rat.mul_add]) w g
  have M0 : ∀ k, qcmp (vq a) (vq b) = k → ∀ w, Gl w → _ := fun k hk w g => cmpQ (k := k) ha hb ba bb2 hk w g
  have M1 := fun w g => subQ ha hb ba bb2 rfl w g
  have M2 : ∀ k, qcmp (vq a) (vq b) = k → ∀ w, Gl w → _ := fun k hk w g => cmpQ (k := k) omi oz smi (by decide) (by rw [vmi, vz0, qcmp_sub]; exact hk) w g
  obtain ⟨n, ln, q1, q2, L0⟩ := floorQ ha ba (by have := (q_small ha sa).1; omega)
  have fn := fit_int (n := n) (by omega)
  have fn1 := fit_int (n := n + 1) (by omega)
  obtain ⟨on, vn⟩ := okq_tq fn
  obtain ⟨on1, vn1⟩ := okq_tq fn1
  have sn := tq_size fn
  have sn1 := tq_size fn1
  have tn := tz_size (z := n) (by omega)
  have tn1 := tz_size (z := n + 1) (by omega)
  have L1 := fun w g => cmpQ on ha sn ba (by rw [vn]) w g
  have L2 := fun w g => addZ (z := n + 1) (okz_tz (z := n) (by omega)) (okz_tz (z := 1) (by decide)) (by rw [vz_tz, vz_tz]) (by omega) w g
  have L3 := fun w g => cmpQ on1 ha sn1 ba (by rw [vn1]) w g
  unfold resZ at L0 L2
  rw [← one_tz] at L2
  rw [← tq_int] at L1 L3
  rw [resQ_fit fab] at C4
  rw [resQ_fit fbc] at C5
  obtain ⟨x, E1, hx⟩ := resQ_any (vq a + vq b + vq c)
  rw [hx] at C6 C7
  rw [resQ_fit fp] at C8 C9
  obtain ⟨r, E2, hr⟩ := resQ_any (vq a * (vq b + vq c))
  rw [hr] at C11 C13
  rw [resQ_fit fs] at C12
  rw [resQ_fit fmi] at M1
  have C10 := fun w g => same_any x E1 w g
  have C14 := fun w g => same_any r E2 w g
  have d1 : decide ((60 : Int) < (a.size : Int)) = false := decide_eq_false (by omega)
  have d2 : decide ((60 : Int) < (b.size : Int)) = false := decide_eq_false (by omega)
  have d3 : decide ((60 : Int) < (c.size : Int)) = false := decide_eq_false (by omega)
  have dlo := decide_eq_true q1
  have dhi := decide_eq_true q2
  have ne_of : vq a ≠ vq b → (a.toList == b.toList) = false := fun h => ba_ne2 (fun e => h (by rw [e]))
  by_cases h0 : vq b = 0
  · have dz : (b.toList == [48, 47, 49]) = true := by
      have : b = ⟨#[48, 47, 49]⟩ := tq_inj hb oz (by rw [vz0, h0])
      rw [this, toList_data']; rfl
    rcases qcmp_cases (vq a) (vq b) with ⟨h1, h2⟩ | ⟨h1, h2⟩ | ⟨h1, h2⟩
    · exact field_ltz a b c _ _ x _ r _ _ _ _ E1 E2 _ _ d1 d2 d3 (ne_of (fun e => by rw [e] at h1; exact Rat.lt_irrefl h1)) dz tn tn1 dlo dhi C0 C1 C2 C3 C4 C5 C6 C7 C8 C9 C10 C11 C12 C13 C14 (M0 _ h2) M1 (M2 _ h2) L0 L1 L2 L3 w hg
    · exact field_eqz a b c _ _ x _ r _ _ _ _ E1 E2 _ _ d1 d2 d3 (by rw [tq_inj ha hb h1]; simp) dz tn tn1 dlo dhi C0 C1 C2 C3 C4 C5 C6 C7 C8 C9 C10 C11 C12 C13 C14 (M0 _ h2) M1 (M2 _ h2) L0 L1 L2 L3 w hg
    · exact field_gtz a b c _ _ x _ r _ _ _ _ E1 E2 _ _ d1 d2 d3 (ne_of (fun e => by rw [e] at h1; exact Rat.lt_irrefl h1)) dz tn tn1 dlo dhi C0 C1 C2 C3 C4 C5 C6 C7 C8 C9 C10 C11 C12 C13 C14 (M0 _ h2) M1 (M2 _ h2) L0 L1 L2 L3 w hg
  · have dz : (b.toList == [48, 47, 49]) = false := by
      have := ba_ne2 (x := b) (y := ⟨#[48, 47, 49]⟩) (fun e => h0 (by rw [e, vz0]))
      rwa [show (⟨#[48, 47, 49]⟩ : ByteArray).toList = [48, 47, 49] by rw [toList_data']] at this
    obtain ⟨d, hd, fd, D0⟩ := divQ ha hb ba bb2 h0
    have fdd := fd 0 fd1 fd2
    obtain ⟨od, vd⟩ := okq_tq fdd
    have D1 := fun w g => mulQ (r := vq a) od hb (tq_size fdd) bb2 (by rw [vd, hd]) w g
    rw [resQ_fit fdd] at D0
    have fa : Fit (vq a) := by
      obtain ⟨v1, v2⟩ := vq_parts ha
      obtain ⟨s1, s2⟩ := q_small ha sa
      exact ⟨by rw [v1, sgn_abs]; omega, by rw [v2]; omega⟩
    rw [resQ_fit fa, tq_vq ha] at D1
    rcases qcmp_cases (vq a) (vq b) with ⟨h1, h2⟩ | ⟨h1, h2⟩ | ⟨h1, h2⟩
    · exact field_lt a b c _ _ x _ r _ _ _ _ _ E1 E2 _ _ d1 d2 d3 (ne_of (fun e => by rw [e] at h1; exact Rat.lt_irrefl h1)) dz tn tn1 dlo dhi C0 C1 C2 C3 C4 C5 C6 C7 C8 C9 C10 C11 C12 C13 C14 (M0 _ h2) M1 (M2 _ h2) D0 D1 L0 L1 L2 L3 w hg
    · exact field_eq a b c _ _ x _ r _ _ _ _ _ E1 E2 _ _ d1 d2 d3 (by rw [tq_inj ha hb h1]; simp) dz tn tn1 dlo dhi C0 C1 C2 C3 C4 C5 C6 C7 C8 C9 C10 C11 C12 C13 C14 (M0 _ h2) M1 (M2 _ h2) D0 D1 L0 L1 L2 L3 w hg
    · exact field_gt a b c _ _ x _ r _ _ _ _ _ E1 E2 _ _ d1 d2 d3 (ne_of (fun e => by rw [e] at h1; exact Rat.lt_irrefl h1)) dz tn tn1 dlo dhi C0 C1 C2 C3 C4 C5 C6 C7 C8 C9 C10 C11 C12 C13 C14 (M0 _ h2) M1 (M2 _ h2) D0 D1 L0 L1 L2 L3 w hg
/-- the law of fields, at any three strings -/
theorem field_any (a b c : ByteArray) (w : World) (hg : Gl w) : Calls Tryz.prog 9 #[.string a, .string b, .string c] w fun e w' => e = .returned (.bool true) ∧ Below w.heap.size w w' := by
  have W := awake_any
  by_cases ha : 60 < a.size
  · exact field_e0 a b c (decide_eq_true (by omega)) W W w hg
  have da : decide ((60 : Int) < (a.size : Int)) = false := decide_eq_false (by omega)
  by_cases hb : 60 < b.size
  · exact field_e1 a b c da (decide_eq_true (by omega)) W W w hg
  have db : decide ((60 : Int) < (b.size : Int)) = false := decide_eq_false (by omega)
  by_cases hc : 60 < c.size
  · exact field_e2 a b c da db (decide_eq_true (by omega)) W W w hg
  have dc : decide ((60 : Int) < (c.size : Int)) = false := decide_eq_false (by omega)
  by_cases oa : ckR a.data.toList = 0
  · by_cases ob : ckR b.data.toList = 0
    · by_cases oc : ckR c.data.toList = 0
      · exact field_ok a b c oa ob oc (by omega) (by omega) (by omega) w hg
      · exact field_e5 a b c _ da db dc (by simpa using oc) W (fun w g => checkR_ok oa (by omega) w g) (fun w g => checkR_ok ob (by omega) w g) (fun w g => checkReal_any c (by omega) w g) W w hg
    · exact field_e4 a b c _ da db dc (by simpa using ob) W (fun w g => checkR_ok oa (by omega) w g) (fun w g => checkReal_any b (by omega) w g) W w hg
  · exact field_e3 a b c _ da db dc (by simpa using oa) W (fun w g => checkReal_any a (by omega) w g) W w hg
end Go.Proofs.YtpbegoflpfdajaaGreatDoor

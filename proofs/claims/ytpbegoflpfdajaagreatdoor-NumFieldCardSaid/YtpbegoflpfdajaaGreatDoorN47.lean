/- WHAT IS PROVED: contracts of functions of the numbers package and laws for them, used by the last text of this claim. CONDITIONS: stated at each theorem. -/
import Derived.Test.YtpbegoflpfdajaaGreatDoorN46
namespace Go.Proofs.YtpbegoflpfdajaaGreatDoor
open Go.RowKit

set_option maxHeartbeats 4000000 in
set_option maxRecDepth 20000 in
theorem field_ltz (a b c ab bc x p r s mi n nx : ByteArray) (E1 E2 lo hi : Int)
    (d1 : decide ((60 : Int) < (a.size : Int)) = false) (d2 : decide ((60 : Int) < (b.size : Int)) = false) (d3 : decide ((60 : Int) < (c.size : Int)) = false)
    (de : (a.toList == b.toList) = false) (dz : (b.toList == [48, 47, 49]) = true) (sn : n.size ≤ 200) (snx : nx.size ≤ 200) (dlo : decide (lo ≤ (0 : Int)) = true) (dhi : decide ((0 : Int) < hi) = true)
    (C0 : ∀ w, Gl w → Calls Tryz.prog 10 #[] w fun e w' => e = .returned (.bool true) ∧ Below w.heap.size w w')
    (C1 : ∀ w, Gl w → Calls Tryz.prog 45 #[.string a] w fun e w' => e = .returned (.int .i64 0) ∧ Below w.heap.size w w')
    (C2 : ∀ w, Gl w → Calls Tryz.prog 45 #[.string b] w fun e w' => e = .returned (.int .i64 0) ∧ Below w.heap.size w w')
    (C3 : ∀ w, Gl w → Calls Tryz.prog 45 #[.string c] w fun e w' => e = .returned (.int .i64 0) ∧ Below w.heap.size w w')
    (C4 : ∀ w, Gl w → Calls Tryz.prog 35 #[.string a, .string b] w fun e w' => e = .returned (.tuple #[.string ab, .int .i64 0]) ∧ Below w.heap.size w w')
    (C5 : ∀ w, Gl w → Calls Tryz.prog 35 #[.string b, .string c] w fun e w' => e = .returned (.tuple #[.string bc, .int .i64 0]) ∧ Below w.heap.size w w')
    (C6 : ∀ w, Gl w → Calls Tryz.prog 35 #[.string ab, .string c] w fun e w' => e = .returned (.tuple #[.string x, .int .i64 E1]) ∧ Below w.heap.size w w')
    (C7 : ∀ w, Gl w → Calls Tryz.prog 35 #[.string a, .string bc] w fun e w' => e = .returned (.tuple #[.string x, .int .i64 E1]) ∧ Below w.heap.size w w')
    (C8 : ∀ w, Gl w → Calls Tryz.prog 39 #[.string a, .string b] w fun e w' => e = .returned (.tuple #[.string p, .int .i64 0]) ∧ Below w.heap.size w w')
    (C9 : ∀ w, Gl w → Calls Tryz.prog 39 #[.string b, .string a] w fun e w' => e = .returned (.tuple #[.string p, .int .i64 0]) ∧ Below w.heap.size w w')
    (C10 : ∀ w, Gl w → Calls Tryz.prog 61 #[.string x, .int .i64 E1, .string x, .int .i64 E1] w fun e w' => e = .returned (.bool true) ∧ Below w.heap.size w w')
    (C11 : ∀ w, Gl w → Calls Tryz.prog 39 #[.string a, .string bc] w fun e w' => e = .returned (.tuple #[.string r, .int .i64 E2]) ∧ Below w.heap.size w w')
    (C12 : ∀ w, Gl w → Calls Tryz.prog 39 #[.string a, .string c] w fun e w' => e = .returned (.tuple #[.string s, .int .i64 0]) ∧ Below w.heap.size w w')
    (C13 : ∀ w, Gl w → Calls Tryz.prog 35 #[.string p, .string s] w fun e w' => e = .returned (.tuple #[.string r, .int .i64 E2]) ∧ Below w.heap.size w w')
    (C14 : ∀ w, Gl w → Calls Tryz.prog 61 #[.string r, .int .i64 E2, .string r, .int .i64 E2] w fun e w' => e = .returned (.bool true) ∧ Below w.heap.size w w')
    (C15 : ∀ w, Gl w → Calls Tryz.prog 43 #[.string a, .string b] w fun e w' => e = .returned (.tuple #[.int .i64 (-1), .int .i64 0]) ∧ Below w.heap.size w w')
    (C16 : ∀ w, Gl w → Calls Tryz.prog 37 #[.string a, .string b] w fun e w' => e = .returned (.tuple #[.string mi, .int .i64 0]) ∧ Below w.heap.size w w')
    (C17 : ∀ w, Gl w → Calls Tryz.prog 43 #[.string mi, .string ⟨#[48, 47, 49]⟩] w fun e w' => e = .returned (.tuple #[.int .i64 (-1), .int .i64 0]) ∧ Below w.heap.size w w')
    (C18 : ∀ w, Gl w → Calls Tryz.prog 53 #[.string a] w fun e w' => e = .returned (.tuple #[.string n, .int .i64 0]) ∧ Below w.heap.size w w')
    (C19 : ∀ w, Gl w → Calls Tryz.prog 43 #[.string (n ++ ⟨#[47, 49]⟩), .string a] w fun e w' => e = .returned (.tuple #[.int .i64 lo, .int .i64 0]) ∧ Below w.heap.size w w')
    (C20 : ∀ w, Gl w → Calls Tryz.prog 21 #[.string n, .string ⟨#[49]⟩] w fun e w' => e = .returned (.tuple #[.string nx, .int .i64 0]) ∧ Below w.heap.size w w')
    (C21 : ∀ w, Gl w → Calls Tryz.prog 43 #[.string (nx ++ ⟨#[47, 49]⟩), .string a] w fun e w' => e = .returned (.tuple #[.int .i64 hi, .int .i64 0]) ∧ Below w.heap.size w w')
    (w : World) (hg : Gl w) : Calls Tryz.prog 9 #[.string a, .string b, .string c] w fun e w' => e = .returned (.bool true) ∧ Below w.heap.size w w' := by
  have D0 := Lib.hid C0; clear C0
  have D1 := Lib.hid C1; clear C1
  have D2 := Lib.hid C2; clear C2
  have D3 := Lib.hid C3; clear C3
  have D4 := Lib.hid C4; clear C4
  have D5 := Lib.hid C5; clear C5
  have D6 := Lib.hid C6; clear C6
  have D7 := Lib.hid C7; clear C7
  have D8 := Lib.hid C8; clear C8
  have D9 := Lib.hid C9; clear C9
  have D10 := Lib.hid C10; clear C10
  have D11 := Lib.hid C11; clear C11
  have D12 := Lib.hid C12; clear C12
  have D13 := Lib.hid C13; clear C13
  have D14 := Lib.hid C14; clear C14
  have D15 := Lib.hid C15; clear C15
  have D16 := Lib.hid C16; clear C16
  have D17 := Lib.hid C17; clear C17
  have D18 := Lib.hid C18; clear C18
  have D19 := Lib.hid C19; clear C19
  have D20 := Lib.hid C20; clear C20
  have D21 := Lib.hid C21; clear C21
  have G0 := Lib.hid hg
  have B0 := Lib.hid (Below.refl w.heap.size w); clear hg
  go_enter Tryz.func9, Tryz.ntmps9
  go_wp2_with (first
    | (go_at_call 10; (with_reducible refine (D0.out _ G0.out).mono ?_); rintro e w1 ⟨rfl, hb⟩; have B1 := Lib.hid (B0.out.trans (hb.mono B0.out.size)); have G1 := Lib.hid (G0.out.keep hb); clear hb B0 G0)
    | (go_at_call 45; (with_reducible refine (D1.out _ G1.out).mono ?_); rintro e w2 ⟨rfl, hb⟩; have B2 := Lib.hid (B1.out.trans (hb.mono B1.out.size)); have G2 := Lib.hid (G1.out.keep hb); clear hb B1 G1)
    | (go_at_call 45; (with_reducible refine (D2.out _ G2.out).mono ?_); rintro e w3 ⟨rfl, hb⟩; have B3 := Lib.hid (B2.out.trans (hb.mono B2.out.size)); have G3 := Lib.hid (G2.out.keep hb); clear hb B2 G2)
    | (go_at_call 45; (with_reducible refine (D3.out _ G3.out).mono ?_); rintro e w4 ⟨rfl, hb⟩; have B4 := Lib.hid (B3.out.trans (hb.mono B3.out.size)); have G4 := Lib.hid (G3.out.keep hb); clear hb B3 G3)
    | (go_at_call 35; (with_reducible refine (D4.out _ G4.out).mono ?_); rintro e w5 ⟨rfl, hb⟩; have B5 := Lib.hid (B4.out.trans (hb.mono B4.out.size)); have G5 := Lib.hid (G4.out.keep hb); clear hb B4 G4)
    | (go_at_call 35; (with_reducible refine (D5.out _ G5.out).mono ?_); rintro e w6 ⟨rfl, hb⟩; have B6 := Lib.hid (B5.out.trans (hb.mono B5.out.size)); have G6 := Lib.hid (G5.out.keep hb); clear hb B5 G5)
    | (go_at_call 35; (with_reducible refine (D6.out _ G6.out).mono ?_); rintro e w7 ⟨rfl, hb⟩; have B7 := Lib.hid (B6.out.trans (hb.mono B6.out.size)); have G7 := Lib.hid (G6.out.keep hb); clear hb B6 G6)
    | (go_at_call 35; (with_reducible refine (D7.out _ G7.out).mono ?_); rintro e w8 ⟨rfl, hb⟩; have B8 := Lib.hid (B7.out.trans (hb.mono B7.out.size)); have G8 := Lib.hid (G7.out.keep hb); clear hb B7 G7)
    | (go_at_call 39; (with_reducible refine (D8.out _ G8.out).mono ?_); rintro e w9 ⟨rfl, hb⟩; have B9 := Lib.hid (B8.out.trans (hb.mono B8.out.size)); have G9 := Lib.hid (G8.out.keep hb); clear hb B8 G8)
    | (go_at_call 39; (with_reducible refine (D9.out _ G9.out).mono ?_); rintro e w10 ⟨rfl, hb⟩; have B10 := Lib.hid (B9.out.trans (hb.mono B9.out.size)); have G10 := Lib.hid (G9.out.keep hb); clear hb B9 G9)
    | (go_at_call 61; (with_reducible refine (D10.out _ G10.out).mono ?_); rintro e w11 ⟨rfl, hb⟩; have B11 := Lib.hid (B10.out.trans (hb.mono B10.out.size)); have G11 := Lib.hid (G10.out.keep hb); clear hb B10 G10)
    | (go_at_call 39; (with_reducible refine (D11.out _ G11.out).mono ?_); rintro e w12 ⟨rfl, hb⟩; have B12 := Lib.hid (B11.out.trans (hb.mono B11.out.size)); have G12 := Lib.hid (G11.out.keep hb); clear hb B11 G11)
    | (go_at_call 39; (with_reducible refine (D12.out _ G12.out).mono ?_); rintro e w13 ⟨rfl, hb⟩; have B13 := Lib.hid (B12.out.trans (hb.mono B12.out.size)); have G13 := Lib.hid (G12.out.keep hb); clear hb B12 G12)
    | (go_at_call 35; (with_reducible refine (D13.out _ G13.out).mono ?_); rintro e w14 ⟨rfl, hb⟩; have B14 := Lib.hid (B13.out.trans (hb.mono B13.out.size)); have G14 := Lib.hid (G13.out.keep hb); clear hb B13 G13)
    | (go_at_call 61; (with_reducible refine (D14.out _ G14.out).mono ?_); rintro e w15 ⟨rfl, hb⟩; have B15 := Lib.hid (B14.out.trans (hb.mono B14.out.size)); have G15 := Lib.hid (G14.out.keep hb); clear hb B14 G14)
    | (go_at_call 43; (with_reducible refine (D15.out _ G15.out).mono ?_); rintro e w16 ⟨rfl, hb⟩; have B16 := Lib.hid (B15.out.trans (hb.mono B15.out.size)); have G16 := Lib.hid (G15.out.keep hb); clear hb B15 G15)
    | (go_at_call 37; (with_reducible refine (D16.out _ G16.out).mono ?_); rintro e w17 ⟨rfl, hb⟩; have B17 := Lib.hid (B16.out.trans (hb.mono B16.out.size)); have G17 := Lib.hid (G16.out.keep hb); clear hb B16 G16)
    | (go_at_call 43; (with_reducible refine (D17.out _ G17.out).mono ?_); rintro e w18 ⟨rfl, hb⟩; have B18 := Lib.hid (B17.out.trans (hb.mono B17.out.size)); have G18 := Lib.hid (G17.out.keep hb); clear hb B17 G17)
    | (go_at_call 53; (with_reducible refine (D18.out _ G18.out).mono ?_); rintro e w19 ⟨rfl, hb⟩; have B19 := Lib.hid (B18.out.trans (hb.mono B18.out.size)); have G19 := Lib.hid (G18.out.keep hb); clear hb B18 G18)
    | (go_at_call 43; (with_reducible refine (D19.out _ G19.out).mono ?_); rintro e w20 ⟨rfl, hb⟩; have B20 := Lib.hid (B19.out.trans (hb.mono B19.out.size)); have G20 := Lib.hid (G19.out.keep hb); clear hb B19 G19)
    | (go_at_call 21; (with_reducible refine (D20.out _ G20.out).mono ?_); rintro e w21 ⟨rfl, hb⟩; have B21 := Lib.hid (B20.out.trans (hb.mono B20.out.size)); have G21 := Lib.hid (G20.out.keep hb); clear hb B20 G20)
    | (go_at_call 43; (with_reducible refine (D21.out _ G21.out).mono ?_); rintro e w22 ⟨rfl, hb⟩; have B22 := Lib.hid (B21.out.trans (hb.mono B21.out.size)); have G22 := Lib.hid (G21.out.keep hb); clear hb B21 G21))
  go_ret
  exact ⟨rfl, B22.out⟩
set_option maxHeartbeats 4000000 in
set_option maxRecDepth 20000 in
theorem field_lt (a b c ab bc x p r s mi n nx d : ByteArray) (E1 E2 lo hi : Int)
    (d1 : decide ((60 : Int) < (a.size : Int)) = false) (d2 : decide ((60 : Int) < (b.size : Int)) = false) (d3 : decide ((60 : Int) < (c.size : Int)) = false)
    (de : (a.toList == b.toList) = false) (dz : (b.toList == [48, 47, 49]) = false) (sn : n.size ≤ 200) (snx : nx.size ≤ 200) (dlo : decide (lo ≤ (0 : Int)) = true) (dhi : decide ((0 : Int) < hi) = true)
    (C0 : ∀ w, Gl w → Calls Tryz.prog 10 #[] w fun e w' => e = .returned (.bool true) ∧ Below w.heap.size w w')
    (C1 : ∀ w, Gl w → Calls Tryz.prog 45 #[.string a] w fun e w' => e = .returned (.int .i64 0) ∧ Below w.heap.size w w')
    (C2 : ∀ w, Gl w → Calls Tryz.prog 45 #[.string b] w fun e w' => e = .returned (.int .i64 0) ∧ Below w.heap.size w w')
    (C3 : ∀ w, Gl w → Calls Tryz.prog 45 #[.string c] w fun e w' => e = .returned (.int .i64 0) ∧ Below w.heap.size w w')
    (C4 : ∀ w, Gl w → Calls Tryz.prog 35 #[.string a, .string b] w fun e w' => e = .returned (.tuple #[.string ab, .int .i64 0]) ∧ Below w.heap.size w w')
    (C5 : ∀ w, Gl w → Calls Tryz.prog 35 #[.string b, .string c] w fun e w' => e = .returned (.tuple #[.string bc, .int .i64 0]) ∧ Below w.heap.size w w')
    (C6 : ∀ w, Gl w → Calls Tryz.prog 35 #[.string ab, .string c] w fun e w' => e = .returned (.tuple #[.string x, .int .i64 E1]) ∧ Below w.heap.size w w')
    (C7 : ∀ w, Gl w → Calls Tryz.prog 35 #[.string a, .string bc] w fun e w' => e = .returned (.tuple #[.string x, .int .i64 E1]) ∧ Below w.heap.size w w')
    (C8 : ∀ w, Gl w → Calls Tryz.prog 39 #[.string a, .string b] w fun e w' => e = .returned (.tuple #[.string p, .int .i64 0]) ∧ Below w.heap.size w w')
    (C9 : ∀ w, Gl w → Calls Tryz.prog 39 #[.string b, .string a] w fun e w' => e = .returned (.tuple #[.string p, .int .i64 0]) ∧ Below w.heap.size w w')
    (C10 : ∀ w, Gl w → Calls Tryz.prog 61 #[.string x, .int .i64 E1, .string x, .int .i64 E1] w fun e w' => e = .returned (.bool true) ∧ Below w.heap.size w w')
    (C11 : ∀ w, Gl w → Calls Tryz.prog 39 #[.string a, .string bc] w fun e w' => e = .returned (.tuple #[.string r, .int .i64 E2]) ∧ Below w.heap.size w w')
    (C12 : ∀ w, Gl w → Calls Tryz.prog 39 #[.string a, .string c] w fun e w' => e = .returned (.tuple #[.string s, .int .i64 0]) ∧ Below w.heap.size w w')
    (C13 : ∀ w, Gl w → Calls Tryz.prog 35 #[.string p, .string s] w fun e w' => e = .returned (.tuple #[.string r, .int .i64 E2]) ∧ Below w.heap.size w w')
    (C14 : ∀ w, Gl w → Calls Tryz.prog 61 #[.string r, .int .i64 E2, .string r, .int .i64 E2] w fun e w' => e = .returned (.bool true) ∧ Below w.heap.size w w')
    (C15 : ∀ w, Gl w → Calls Tryz.prog 43 #[.string a, .string b] w fun e w' => e = .returned (.tuple #[.int .i64 (-1), .int .i64 0]) ∧ Below w.heap.size w w')
    (C16 : ∀ w, Gl w → Calls Tryz.prog 37 #[.string a, .string b] w fun e w' => e = .returned (.tuple #[.string mi, .int .i64 0]) ∧ Below w.heap.size w w')
    (C17 : ∀ w, Gl w → Calls Tryz.prog 43 #[.string mi, .string ⟨#[48, 47, 49]⟩] w fun e w' => e = .returned (.tuple #[.int .i64 (-1), .int .i64 0]) ∧ Below w.heap.size w w')
    (C18 : ∀ w, Gl w → Calls Tryz.prog 41 #[.string a, .string b] w fun e w' => e = .returned (.tuple #[.string d, .int .i64 0]) ∧ Below w.heap.size w w')
    (C19 : ∀ w, Gl w → Calls Tryz.prog 39 #[.string d, .string b] w fun e w' => e = .returned (.tuple #[.string a, .int .i64 0]) ∧ Below w.heap.size w w')
    (C20 : ∀ w, Gl w → Calls Tryz.prog 53 #[.string a] w fun e w' => e = .returned (.tuple #[.string n, .int .i64 0]) ∧ Below w.heap.size w w')
    (C21 : ∀ w, Gl w → Calls Tryz.prog 43 #[.string (n ++ ⟨#[47, 49]⟩), .string a] w fun e w' => e = .returned (.tuple #[.int .i64 lo, .int .i64 0]) ∧ Below w.heap.size w w')
    (C22 : ∀ w, Gl w → Calls Tryz.prog 21 #[.string n, .string ⟨#[49]⟩] w fun e w' => e = .returned (.tuple #[.string nx, .int .i64 0]) ∧ Below w.heap.size w w')
    (C23 : ∀ w, Gl w → Calls Tryz.prog 43 #[.string (nx ++ ⟨#[47, 49]⟩), .string a] w fun e w' => e = .returned (.tuple #[.int .i64 hi, .int .i64 0]) ∧ Below w.heap.size w w')
    (w : World) (hg : Gl w) : Calls Tryz.prog 9 #[.string a, .string b, .string c] w fun e w' => e = .returned (.bool true) ∧ Below w.heap.size w w' := by
  have D0 := Lib.hid C0; clear C0
  have D1 := Lib.hid C1; clear C1
  have D2 := Lib.hid C2; clear C2
  have D3 := Lib.hid C3; clear C3
  have D4 := Lib.hid C4; clear C4
  have D5 := Lib.hid C5; clear C5
  have D6 := Lib.hid C6; clear C6
  have D7 := Lib.hid C7; clear C7
  have D8 := Lib.hid C8; clear C8
  have D9 := Lib.hid C9; clear C9
  have D10 := Lib.hid C10; clear C10
  have D11 := Lib.hid C11; clear C11
  have D12 := Lib.hid C12; clear C12
  have D13 := Lib.hid C13; clear C13
  have D14 := Lib.hid C14; clear C14
  have D15 := Lib.hid C15; clear C15
  have D16 := Lib.hid C16; clear C16
  have D17 := Lib.hid C17; clear C17
  have D18 := Lib.hid C18; clear C18
  have D19 := Lib.hid C19; clear C19
  have D20 := Lib.hid C20; clear C20
  have D21 := Lib.hid C21; clear C21
  have D22 := Lib.hid C22; clear C22
  have D23 := Lib.hid C23; clear C23
  have G0 := Lib.hid hg
  have B0 := Lib.hid (Below.refl w.heap.size w); clear hg
  go_enter Tryz.func9, Tryz.ntmps9
  go_wp2_with (first
    | (go_at_call 10; (with_reducible refine (D0.out _ G0.out).mono ?_); rintro e w1 ⟨rfl, hb⟩; have B1 := Lib.hid (B0.out.trans (hb.mono B0.out.size)); have G1 := Lib.hid (G0.out.keep hb); clear hb B0 G0)
    | (go_at_call 45; (with_reducible refine (D1.out _ G1.out).mono ?_); rintro e w2 ⟨rfl, hb⟩; have B2 := Lib.hid (B1.out.trans (hb.mono B1.out.size)); have G2 := Lib.hid (G1.out.keep hb); clear hb B1 G1)
    | (go_at_call 45; (with_reducible refine (D2.out _ G2.out).mono ?_); rintro e w3 ⟨rfl, hb⟩; have B3 := Lib.hid (B2.out.trans (hb.mono B2.out.size)); have G3 := Lib.hid (G2.out.keep hb); clear hb B2 G2)
    | (go_at_call 45; (with_reducible refine (D3.out _ G3.out).mono ?_); rintro e w4 ⟨rfl, hb⟩; have B4 := Lib.hid (B3.out.trans (hb.mono B3.out.size)); have G4 := Lib.hid (G3.out.keep hb); clear hb B3 G3)
    | (go_at_call 35; (with_reducible refine (D4.out _ G4.out).mono ?_); rintro e w5 ⟨rfl, hb⟩; have B5 := Lib.hid (B4.out.trans (hb.mono B4.out.size)); have G5 := Lib.hid (G4.out.keep hb); clear hb B4 G4)
    | (go_at_call 35; (with_reducible refine (D5.out _ G5.out).mono ?_); rintro e w6 ⟨rfl, hb⟩; have B6 := Lib.hid (B5.out.trans (hb.mono B5.out.size)); have G6 := Lib.hid (G5.out.keep hb); clear hb B5 G5)
    | (go_at_call 35; (with_reducible refine (D6.out _ G6.out).mono ?_); rintro e w7 ⟨rfl, hb⟩; have B7 := Lib.hid (B6.out.trans (hb.mono B6.out.size)); have G7 := Lib.hid (G6.out.keep hb); clear hb B6 G6)
    | (go_at_call 35; (with_reducible refine (D7.out _ G7.out).mono ?_); rintro e w8 ⟨rfl, hb⟩; have B8 := Lib.hid (B7.out.trans (hb.mono B7.out.size)); have G8 := Lib.hid (G7.out.keep hb); clear hb B7 G7)
    | (go_at_call 39; (with_reducible refine (D8.out _ G8.out).mono ?_); rintro e w9 ⟨rfl, hb⟩; have B9 := Lib.hid (B8.out.trans (hb.mono B8.out.size)); have G9 := Lib.hid (G8.out.keep hb); clear hb B8 G8)
    | (go_at_call 39; (with_reducible refine (D9.out _ G9.out).mono ?_); rintro e w10 ⟨rfl, hb⟩; have B10 := Lib.hid (B9.out.trans (hb.mono B9.out.size)); have G10 := Lib.hid (G9.out.keep hb); clear hb B9 G9)
    | (go_at_call 61; (with_reducible refine (D10.out _ G10.out).mono ?_); rintro e w11 ⟨rfl, hb⟩; have B11 := Lib.hid (B10.out.trans (hb.mono B10.out.size)); have G11 := Lib.hid (G10.out.keep hb); clear hb B10 G10)
    | (go_at_call 39; (with_reducible refine (D11.out _ G11.out).mono ?_); rintro e w12 ⟨rfl, hb⟩; have B12 := Lib.hid (B11.out.trans (hb.mono B11.out.size)); have G12 := Lib.hid (G11.out.keep hb); clear hb B11 G11)
    | (go_at_call 39; (with_reducible refine (D12.out _ G12.out).mono ?_); rintro e w13 ⟨rfl, hb⟩; have B13 := Lib.hid (B12.out.trans (hb.mono B12.out.size)); have G13 := Lib.hid (G12.out.keep hb); clear hb B12 G12)
    | (go_at_call 35; (with_reducible refine (D13.out _ G13.out).mono ?_); rintro e w14 ⟨rfl, hb⟩; have B14 := Lib.hid (B13.out.trans (hb.mono B13.out.size)); have G14 := Lib.hid (G13.out.keep hb); clear hb B13 G13)
    | (go_at_call 61; (with_reducible refine (D14.out _ G14.out).mono ?_); rintro e w15 ⟨rfl, hb⟩; have B15 := Lib.hid (B14.out.trans (hb.mono B14.out.size)); have G15 := Lib.hid (G14.out.keep hb); clear hb B14 G14)
    | (go_at_call 43; (with_reducible refine (D15.out _ G15.out).mono ?_); rintro e w16 ⟨rfl, hb⟩; have B16 := Lib.hid (B15.out.trans (hb.mono B15.out.size)); have G16 := Lib.hid (G15.out.keep hb); clear hb B15 G15)
    | (go_at_call 37; (with_reducible refine (D16.out _ G16.out).mono ?_); rintro e w17 ⟨rfl, hb⟩; have B17 := Lib.hid (B16.out.trans (hb.mono B16.out.size)); have G17 := Lib.hid (G16.out.keep hb); clear hb B16 G16)
    | (go_at_call 43; (with_reducible refine (D17.out _ G17.out).mono ?_); rintro e w18 ⟨rfl, hb⟩; have B18 := Lib.hid (B17.out.trans (hb.mono B17.out.size)); have G18 := Lib.hid (G17.out.keep hb); clear hb B17 G17)
    | (go_at_call 41; (with_reducible refine (D18.out _ G18.out).mono ?_); rintro e w19 ⟨rfl, hb⟩; have B19 := Lib.hid (B18.out.trans (hb.mono B18.out.size)); have G19 := Lib.hid (G18.out.keep hb); clear hb B18 G18)
    | (go_at_call 39; (with_reducible refine (D19.out _ G19.out).mono ?_); rintro e w20 ⟨rfl, hb⟩; have B20 := Lib.hid (B19.out.trans (hb.mono B19.out.size)); have G20 := Lib.hid (G19.out.keep hb); clear hb B19 G19)
    | (go_at_call 53; (with_reducible refine (D20.out _ G20.out).mono ?_); rintro e w21 ⟨rfl, hb⟩; have B21 := Lib.hid (B20.out.trans (hb.mono B20.out.size)); have G21 := Lib.hid (G20.out.keep hb); clear hb B20 G20)
    | (go_at_call 43; (with_reducible refine (D21.out _ G21.out).mono ?_); rintro e w22 ⟨rfl, hb⟩; have B22 := Lib.hid (B21.out.trans (hb.mono B21.out.size)); have G22 := Lib.hid (G21.out.keep hb); clear hb B21 G21)
    | (go_at_call 21; (with_reducible refine (D22.out _ G22.out).mono ?_); rintro e w23 ⟨rfl, hb⟩; have B23 := Lib.hid (B22.out.trans (hb.mono B22.out.size)); have G23 := Lib.hid (G22.out.keep hb); clear hb B22 G22)
    | (go_at_call 43; (with_reducible refine (D23.out _ G23.out).mono ?_); rintro e w24 ⟨rfl, hb⟩; have B24 := Lib.hid (B23.out.trans (hb.mono B23.out.size)); have G24 := Lib.hid (G23.out.keep hb); clear hb B23 G23))
  go_ret
  exact ⟨rfl, B24.out⟩
set_option maxHeartbeats 4000000 in
set_option maxRecDepth 20000 in
theorem field_eqz (a b c ab bc x p r s mi n nx : ByteArray) (E1 E2 lo hi : Int)
    (d1 : decide ((60 : Int) < (a.size : Int)) = false) (d2 : decide ((60 : Int) < (b.size : Int)) = false) (d3 : decide ((60 : Int) < (c.size : Int)) = false)
    (de : (a.toList == b.toList) = true) (dz : (b.toList == [48, 47, 49]) = true) (sn : n.size ≤ 200) (snx : nx.size ≤ 200) (dlo : decide (lo ≤ (0 : Int)) = true) (dhi : decide ((0 : Int) < hi) = true)
    (C0 : ∀ w, Gl w → Calls Tryz.prog 10 #[] w fun e w' => e = .returned (.bool true) ∧ Below w.heap.size w w')
    (C1 : ∀ w, Gl w → Calls Tryz.prog 45 #[.string a] w fun e w' => e = .returned (.int .i64 0) ∧ Below w.heap.size w w')
    (C2 : ∀ w, Gl w → Calls Tryz.prog 45 #[.string b] w fun e w' => e = .returned (.int .i64 0) ∧ Below w.heap.size w w')
    (C3 : ∀ w, Gl w → Calls Tryz.prog 45 #[.string c] w fun e w' => e = .returned (.int .i64 0) ∧ Below w.heap.size w w')
    (C4 : ∀ w, Gl w → Calls Tryz.prog 35 #[.string a, .string b] w fun e w' => e = .returned (.tuple #[.string ab, .int .i64 0]) ∧ Below w.heap.size w w')
    (C5 : ∀ w, Gl w → Calls Tryz.prog 35 #[.string b, .string c] w fun e w' => e = .returned (.tuple #[.string bc, .int .i64 0]) ∧ Below w.heap.size w w')
    (C6 : ∀ w, Gl w → Calls Tryz.prog 35 #[.string ab, .string c] w fun e w' => e = .returned (.tuple #[.string x, .int .i64 E1]) ∧ Below w.heap.size w w')
    (C7 : ∀ w, Gl w → Calls Tryz.prog 35 #[.string a, .string bc] w fun e w' => e = .returned (.tuple #[.string x, .int .i64 E1]) ∧ Below w.heap.size w w')
    (C8 : ∀ w, Gl w → Calls Tryz.prog 39 #[.string a, .string b] w fun e w' => e = .returned (.tuple #[.string p, .int .i64 0]) ∧ Below w.heap.size w w')
    (C9 : ∀ w, Gl w → Calls Tryz.prog 39 #[.string b, .string a] w fun e w' => e = .returned (.tuple #[.string p, .int .i64 0]) ∧ Below w.heap.size w w')
    (C10 : ∀ w, Gl w → Calls Tryz.prog 61 #[.string x, .int .i64 E1, .string x, .int .i64 E1] w fun e w' => e = .returned (.bool true) ∧ Below w.heap.size w w')
    (C11 : ∀ w, Gl w → Calls Tryz.prog 39 #[.string a, .string bc] w fun e w' => e = .returned (.tuple #[.string r, .int .i64 E2]) ∧ Below w.heap.size w w')
    (C12 : ∀ w, Gl w → Calls Tryz.prog 39 #[.string a, .string c] w fun e w' => e = .returned (.tuple #[.string s, .int .i64 0]) ∧ Below w.heap.size w w')
    (C13 : ∀ w, Gl w → Calls Tryz.prog 35 #[.string p, .string s] w fun e w' => e = .returned (.tuple #[.string r, .int .i64 E2]) ∧ Below w.heap.size w w')
    (C14 : ∀ w, Gl w → Calls Tryz.prog 61 #[.string r, .int .i64 E2, .string r, .int .i64 E2] w fun e w' => e = .returned (.bool true) ∧ Below w.heap.size w w')
    (C15 : ∀ w, Gl w → Calls Tryz.prog 43 #[.string a, .string b] w fun e w' => e = .returned (.tuple #[.int .i64 0, .int .i64 0]) ∧ Below w.heap.size w w')
    (C16 : ∀ w, Gl w → Calls Tryz.prog 37 #[.string a, .string b] w fun e w' => e = .returned (.tuple #[.string mi, .int .i64 0]) ∧ Below w.heap.size w w')
    (C17 : ∀ w, Gl w → Calls Tryz.prog 43 #[.string mi, .string ⟨#[48, 47, 49]⟩] w fun e w' => e = .returned (.tuple #[.int .i64 0, .int .i64 0]) ∧ Below w.heap.size w w')
    (C18 : ∀ w, Gl w → Calls Tryz.prog 53 #[.string a] w fun e w' => e = .returned (.tuple #[.string n, .int .i64 0]) ∧ Below w.heap.size w w')
    (C19 : ∀ w, Gl w → Calls Tryz.prog 43 #[.string (n ++ ⟨#[47, 49]⟩), .string a] w fun e w' => e = .returned (.tuple #[.int .i64 lo, .int .i64 0]) ∧ Below w.heap.size w w')
    (C20 : ∀ w, Gl w → Calls Tryz.prog 21 #[.string n, .string ⟨#[49]⟩] w fun e w' => e = .returned (.tuple #[.string nx, .int .i64 0]) ∧ Below w.heap.size w w')
    (C21 : ∀ w, Gl w → Calls Tryz.prog 43 #[.string (nx ++ ⟨#[47, 49]⟩), .string a] w fun e w' => e = .returned (.tuple #[.int .i64 hi, .int .i64 0]) ∧ Below w.heap.size w w')
    (w : World) (hg : Gl w) : Calls Tryz.prog 9 #[.string a, .string b, .string c] w fun e w' => e = .returned (.bool true) ∧ Below w.heap.size w w' := by
  have D0 := Lib.hid C0; clear C0
  have D1 := Lib.hid C1; clear C1
  have D2 := Lib.hid C2; clear C2
  have D3 := Lib.hid C3; clear C3
  have D4 := Lib.hid C4; clear C4
  have D5 := Lib.hid C5; clear C5
  have D6 := Lib.hid C6; clear C6
  have D7 := Lib.hid C7; clear C7
  have D8 := Lib.hid C8; clear C8
  have D9 := Lib.hid C9; clear C9
  have D10 := Lib.hid C10; clear C10
  have D11 := Lib.hid C11; clear C11
  have D12 := Lib.hid C12; clear C12
  have D13 := Lib.hid C13; clear C13
  have D14 := Lib.hid C14; clear C14
  have D15 := Lib.hid C15; clear C15
  have D16 := Lib.hid C16; clear C16
  have D17 := Lib.hid C17; clear C17
  have D18 := Lib.hid C18; clear C18
  have D19 := Lib.hid C19; clear C19
  have D20 := Lib.hid C20; clear C20
  have D21 := Lib.hid C21; clear C21
  have G0 := Lib.hid hg
  have B0 := Lib.hid (Below.refl w.heap.size w); clear hg
  go_enter Tryz.func9, Tryz.ntmps9
  go_wp2_with (first
    | (go_at_call 10; (with_reducible refine (D0.out _ G0.out).mono ?_); rintro e w1 ⟨rfl, hb⟩; have B1 := Lib.hid (B0.out.trans (hb.mono B0.out.size)); have G1 := Lib.hid (G0.out.keep hb); clear hb B0 G0)
    | (go_at_call 45; (with_reducible refine (D1.out _ G1.out).mono ?_); rintro e w2 ⟨rfl, hb⟩; have B2 := Lib.hid (B1.out.trans (hb.mono B1.out.size)); have G2 := Lib.hid (G1.out.keep hb); clear hb B1 G1)
    | (go_at_call 45; (with_reducible refine (D2.out _ G2.out).mono ?_); rintro e w3 ⟨rfl, hb⟩; have B3 := Lib.hid (B2.out.trans (hb.mono B2.out.size)); have G3 := Lib.hid (G2.out.keep hb); clear hb B2 G2)
    | (go_at_call 45; (with_reducible refine (D3.out _ G3.out).mono ?_); rintro e w4 ⟨rfl, hb⟩; have B4 := Lib.hid (B3.out.trans (hb.mono B3.out.size)); have G4 := Lib.hid (G3.out.keep hb); clear hb B3 G3)
    | (go_at_call 35; (with_reducible refine (D4.out _ G4.out).mono ?_); rintro e w5 ⟨rfl, hb⟩; have B5 := Lib.hid (B4.out.trans (hb.mono B4.out.size)); have G5 := Lib.hid (G4.out.keep hb); clear hb B4 G4)
    | (go_at_call 35; (with_reducible refine (D5.out _ G5.out).mono ?_); rintro e w6 ⟨rfl, hb⟩; have B6 := Lib.hid (B5.out.trans (hb.mono B5.out.size)); have G6 := Lib.hid (G5.out.keep hb); clear hb B5 G5)
    | (go_at_call 35; (with_reducible refine (D6.out _ G6.out).mono ?_); rintro e w7 ⟨rfl, hb⟩; have B7 := Lib.hid (B6.out.trans (hb.mono B6.out.size)); have G7 := Lib.hid (G6.out.keep hb); clear hb B6 G6)
    | (go_at_call 35; (with_reducible refine (D7.out _ G7.out).mono ?_); rintro e w8 ⟨rfl, hb⟩; have B8 := Lib.hid (B7.out.trans (hb.mono B7.out.size)); have G8 := Lib.hid (G7.out.keep hb); clear hb B7 G7)
    | (go_at_call 39; (with_reducible refine (D8.out _ G8.out).mono ?_); rintro e w9 ⟨rfl, hb⟩; have B9 := Lib.hid (B8.out.trans (hb.mono B8.out.size)); have G9 := Lib.hid (G8.out.keep hb); clear hb B8 G8)
    | (go_at_call 39; (with_reducible refine (D9.out _ G9.out).mono ?_); rintro e w10 ⟨rfl, hb⟩; have B10 := Lib.hid (B9.out.trans (hb.mono B9.out.size)); have G10 := Lib.hid (G9.out.keep hb); clear hb B9 G9)
    | (go_at_call 61; (with_reducible refine (D10.out _ G10.out).mono ?_); rintro e w11 ⟨rfl, hb⟩; have B11 := Lib.hid (B10.out.trans (hb.mono B10.out.size)); have G11 := Lib.hid (G10.out.keep hb); clear hb B10 G10)
    | (go_at_call 39; (with_reducible refine (D11.out _ G11.out).mono ?_); rintro e w12 ⟨rfl, hb⟩; have B12 := Lib.hid (B11.out.trans (hb.mono B11.out.size)); have G12 := Lib.hid (G11.out.keep hb); clear hb B11 G11)
    | (go_at_call 39; (with_reducible refine (D12.out _ G12.out).mono ?_); rintro e w13 ⟨rfl, hb⟩; have B13 := Lib.hid (B12.out.trans (hb.mono B12.out.size)); have G13 := Lib.hid (G12.out.keep hb); clear hb B12 G12)
    | (go_at_call 35; (with_reducible refine (D13.out _ G13.out).mono ?_); rintro e w14 ⟨rfl, hb⟩; have B14 := Lib.hid (B13.out.trans (hb.mono B13.out.size)); have G14 := Lib.hid (G13.out.keep hb); clear hb B13 G13)
    | (go_at_call 61; (with_reducible refine (D14.out _ G14.out).mono ?_); rintro e w15 ⟨rfl, hb⟩; have B15 := Lib.hid (B14.out.trans (hb.mono B14.out.size)); have G15 := Lib.hid (G14.out.keep hb); clear hb B14 G14)
    | (go_at_call 43; (with_reducible refine (D15.out _ G15.out).mono ?_); rintro e w16 ⟨rfl, hb⟩; have B16 := Lib.hid (B15.out.trans (hb.mono B15.out.size)); have G16 := Lib.hid (G15.out.keep hb); clear hb B15 G15)
    | (go_at_call 37; (with_reducible refine (D16.out _ G16.out).mono ?_); rintro e w17 ⟨rfl, hb⟩; have B17 := Lib.hid (B16.out.trans (hb.mono B16.out.size)); have G17 := Lib.hid (G16.out.keep hb); clear hb B16 G16)
    | (go_at_call 43; (with_reducible refine (D17.out _ G17.out).mono ?_); rintro e w18 ⟨rfl, hb⟩; have B18 := Lib.hid (B17.out.trans (hb.mono B17.out.size)); have G18 := Lib.hid (G17.out.keep hb); clear hb B17 G17)
    | (go_at_call 53; (with_reducible refine (D18.out _ G18.out).mono ?_); rintro e w19 ⟨rfl, hb⟩; have B19 := Lib.hid (B18.out.trans (hb.mono B18.out.size)); have G19 := Lib.hid (G18.out.keep hb); clear hb B18 G18)
    | (go_at_call 43; (with_reducible refine (D19.out _ G19.out).mono ?_); rintro e w20 ⟨rfl, hb⟩; have B20 := Lib.hid (B19.out.trans (hb.mono B19.out.size)); have G20 := Lib.hid (G19.out.keep hb); clear hb B19 G19)
    | (go_at_call 21; (with_reducible refine (D20.out _ G20.out).mono ?_); rintro e w21 ⟨rfl, hb⟩; have B21 := Lib.hid (B20.out.trans (hb.mono B20.out.size)); have G21 := Lib.hid (G20.out.keep hb); clear hb B20 G20)
    | (go_at_call 43; (with_reducible refine (D21.out _ G21.out).mono ?_); rintro e w22 ⟨rfl, hb⟩; have B22 := Lib.hid (B21.out.trans (hb.mono B21.out.size)); have G22 := Lib.hid (G21.out.keep hb); clear hb B21 G21))
  go_ret
  exact ⟨rfl, B22.out⟩
set_option maxHeartbeats 4000000 in
set_option maxRecDepth 20000 in
theorem field_eq (a b c ab bc x p r s mi n nx d : ByteArray) (E1 E2 lo hi : Int)
    (d1 : decide ((60 : Int) < (a.size : Int)) = false) (d2 : decide ((60 : Int) < (b.size : Int)) = false) (d3 : decide ((60 : Int) < (c.size : Int)) = false)
    (de : (a.toList == b.toList) = true) (dz : (b.toList == [48, 47, 49]) = false) (sn : n.size ≤ 200) (snx : nx.size ≤ 200) (dlo : decide (lo ≤ (0 : Int)) = true) (dhi : decide ((0 : Int) < hi) = true)
    (C0 : ∀ w, Gl w → Calls Tryz.prog 10 #[] w fun e w' => e = .returned (.bool true) ∧ Below w.heap.size w w')
    (C1 : ∀ w, Gl w → Calls Tryz.prog 45 #[.string a] w fun e w' => e = .returned (.int .i64 0) ∧ Below w.heap.size w w')
    (C2 : ∀ w, Gl w → Calls Tryz.prog 45 #[.string b] w fun e w' => e = .returned (.int .i64 0) ∧ Below w.heap.size w w')
    (C3 : ∀ w, Gl w → Calls Tryz.prog 45 #[.string c] w fun e w' => e = .returned (.int .i64 0) ∧ Below w.heap.size w w')
    (C4 : ∀ w, Gl w → Calls Tryz.prog 35 #[.string a, .string b] w fun e w' => e = .returned (.tuple #[.string ab, .int .i64 0]) ∧ Below w.heap.size w w')
    (C5 : ∀ w, Gl w → Calls Tryz.prog 35 #[.string b, .string c] w fun e w' => e = .returned (.tuple #[.string bc, .int .i64 0]) ∧ Below w.heap.size w w')
    (C6 : ∀ w, Gl w → Calls Tryz.prog 35 #[.string ab, .string c] w fun e w' => e = .returned (.tuple #[.string x, .int .i64 E1]) ∧ Below w.heap.size w w')
    (C7 : ∀ w, Gl w → Calls Tryz.prog 35 #[.string a, .string bc] w fun e w' => e = .returned (.tuple #[.string x, .int .i64 E1]) ∧ Below w.heap.size w w')
    (C8 : ∀ w, Gl w → Calls Tryz.prog 39 #[.string a, .string b] w fun e w' => e = .returned (.tuple #[.string p, .int .i64 0]) ∧ Below w.heap.size w w')
    (C9 : ∀ w, Gl w → Calls Tryz.prog 39 #[.string b, .string a] w fun e w' => e = .returned (.tuple #[.string p, .int .i64 0]) ∧ Below w.heap.size w w')
    (C10 : ∀ w, Gl w → Calls Tryz.prog 61 #[.string x, .int .i64 E1, .string x, .int .i64 E1] w fun e w' => e = .returned (.bool true) ∧ Below w.heap.size w w')
    (C11 : ∀ w, Gl w → Calls Tryz.prog 39 #[.string a, .string bc] w fun e w' => e = .returned (.tuple #[.string r, .int .i64 E2]) ∧ Below w.heap.size w w')
    (C12 : ∀ w, Gl w → Calls Tryz.prog 39 #[.string a, .string c] w fun e w' => e = .returned (.tuple #[.string s, .int .i64 0]) ∧ Below w.heap.size w w')
    (C13 : ∀ w, Gl w → Calls Tryz.prog 35 #[.string p, .string s] w fun e w' => e = .returned (.tuple #[.string r, .int .i64 E2]) ∧ Below w.heap.size w w')
    (C14 : ∀ w, Gl w → Calls Tryz.prog 61 #[.string r, .int .i64 E2, .string r, .int .i64 E2] w fun e w' => e = .returned (.bool true) ∧ Below w.heap.size w w')
    (C15 : ∀ w, Gl w → Calls Tryz.prog 43 #[.string a, .string b] w fun e w' => e = .returned (.tuple #[.int .i64 0, .int .i64 0]) ∧ Below w.heap.size w w')
    (C16 : ∀ w, Gl w → Calls Tryz.prog 37 #[.string a, .string b] w fun e w' => e = .returned (.tuple #[.string mi, .int .i64 0]) ∧ Below w.heap.size w w')
    (C17 : ∀ w, Gl w → Calls Tryz.prog 43 #[.string mi, .string ⟨#[48, 47, 49]⟩] w fun e w' => e = .returned (.tuple #[.int .i64 0, .int .i64 0]) ∧ Below w.heap.size w w')
    (C18 : ∀ w, Gl w → Calls Tryz.prog 41 #[.string a, .string b] w fun e w' => e = .returned (.tuple #[.string d, .int .i64 0]) ∧ Below w.heap.size w w')
    (C19 : ∀ w, Gl w → Calls Tryz.prog 39 #[.string d, .string b] w fun e w' => e = .returned (.tuple #[.string a, .int .i64 0]) ∧ Below w.heap.size w w')
    (C20 : ∀ w, Gl w → Calls Tryz.prog 53 #[.string a] w fun e w' => e = .returned (.tuple #[.string n, .int .i64 0]) ∧ Below w.heap.size w w')
    (C21 : ∀ w, Gl w → Calls Tryz.prog 43 #[.string (n ++ ⟨#[47, 49]⟩), .string a] w fun e w' => e = .returned (.tuple #[.int .i64 lo, .int .i64 0]) ∧ Below w.heap.size w w')
    (C22 : ∀ w, Gl w → Calls Tryz.prog 21 #[.string n, .string ⟨#[49]⟩] w fun e w' => e = .returned (.tuple #[.string nx, .int .i64 0]) ∧ Below w.heap.size w w')
    (C23 : ∀ w, Gl w → Calls Tryz.prog 43 #[.string (nx ++ ⟨#[47, 49]⟩), .string a] w fun e w' => e = .returned (.tuple #[.int .i64 hi, .int .i64 0]) ∧ Below w.heap.size w w')
    (w : World) (hg : Gl w) : Calls Tryz.prog 9 #[.string a, .string b, .string c] w fun e w' => e = .returned (.bool true) ∧ Below w.heap.size w w' := by
  have D0 := Lib.hid C0; clear C0
  have D1 := Lib.hid C1; clear C1
  have D2 := Lib.hid C2; clear C2
  have D3 := Lib.hid C3; clear C3
  have D4 := Lib.hid C4; clear C4
  have D5 := Lib.hid C5; clear C5
  have D6 := Lib.hid C6; clear C6
  have D7 := Lib.hid C7; clear C7
  have D8 := Lib.hid C8; clear C8
  have D9 := Lib.hid C9; clear C9
  have D10 := Lib.hid C10; clear C10
  have D11 := Lib.hid C11; clear C11
  have D12 := Lib.hid C12; clear C12
  have D13 := Lib.hid C13; clear C13
  have D14 := Lib.hid C14; clear C14
  have D15 := Lib.hid C15; clear C15
  have D16 := Lib.hid C16; clear C16
  have D17 := Lib.hid C17; clear C17
  have D18 := Lib.hid C18; clear C18
  have D19 := Lib.hid C19; clear C19
  have D20 := Lib.hid C20; clear C20
  have D21 := Lib.hid C21; clear C21
  have D22 := Lib.hid C22; clear C22
  have D23 := Lib.hid C23; clear C23
  have G0 := Lib.hid hg
  have B0 := Lib.hid (Below.refl w.heap.size w); clear hg
  go_enter Tryz.func9, Tryz.ntmps9
  go_wp2_with (first
    | (go_at_call 10; (with_reducible refine (D0.out _ G0.out).mono ?_); rintro e w1 ⟨rfl, hb⟩; have B1 := Lib.hid (B0.out.trans (hb.mono B0.out.size)); have G1 := Lib.hid (G0.out.keep hb); clear hb B0 G0)
    | (go_at_call 45; (with_reducible refine (D1.out _ G1.out).mono ?_); rintro e w2 ⟨rfl, hb⟩; have B2 := Lib.hid (B1.out.trans (hb.mono B1.out.size)); have G2 := Lib.hid (G1.out.keep hb); clear hb B1 G1)
    | (go_at_call 45; (with_reducible refine (D2.out _ G2.out).mono ?_); rintro e w3 ⟨rfl, hb⟩; have B3 := Lib.hid (B2.out.trans (hb.mono B2.out.size)); have G3 := Lib.hid (G2.out.keep hb); clear hb B2 G2)
    | (go_at_call 45; (with_reducible refine (D3.out _ G3.out).mono ?_); rintro e w4 ⟨rfl, hb⟩; have B4 := Lib.hid (B3.out.trans (hb.mono B3.out.size)); have G4 := Lib.hid (G3.out.keep hb); clear hb B3 G3)
    | (go_at_call 35; (with_reducible refine (D4.out _ G4.out).mono ?_); rintro e w5 ⟨rfl, hb⟩; have B5 := Lib.hid (B4.out.trans (hb.mono B4.out.size)); have G5 := Lib.hid (G4.out.keep hb); clear hb B4 G4)
    | (go_at_call 35; (with_reducible refine (D5.out _ G5.out).mono ?_); rintro e w6 ⟨rfl, hb⟩; have B6 := Lib.hid (B5.out.trans (hb.mono B5.out.size)); have G6 := Lib.hid (G5.out.keep hb); clear hb B5 G5)
    | (go_at_call 35; (with_reducible refine (D6.out _ G6.out).mono ?_); rintro e w7 ⟨rfl, hb⟩; have B7 := Lib.hid (B6.out.trans (hb.mono B6.out.size)); have G7 := Lib.hid (G6.out.keep hb); clear hb B6 G6)
    | (go_at_call 35; (with_reducible refine (D7.out _ G7.out).mono ?_); rintro e w8 ⟨rfl, hb⟩; have B8 := Lib.hid (B7.out.trans (hb.mono B7.out.size)); have G8 := Lib.hid (G7.out.keep hb); clear hb B7 G7)
    | (go_at_call 39; (with_reducible refine (D8.out _ G8.out).mono ?_); rintro e w9 ⟨rfl, hb⟩; have B9 := Lib.hid (B8.out.trans (hb.mono B8.out.size)); have G9 := Lib.hid (G8.out.keep hb); clear hb B8 G8)
    | (go_at_call 39; (with_reducible refine (D9.out _ G9.out).mono ?_); rintro e w10 ⟨rfl, hb⟩; have B10 := Lib.hid (B9.out.trans (hb.mono B9.out.size)); have G10 := Lib.hid (G9.out.keep hb); clear hb B9 G9)
    | (go_at_call 61; (with_reducible refine (D10.out _ G10.out).mono ?_); rintro e w11 ⟨rfl, hb⟩; have B11 := Lib.hid (B10.out.trans (hb.mono B10.out.size)); have G11 := Lib.hid (G10.out.keep hb); clear hb B10 G10)
    | (go_at_call 39; (with_reducible refine (D11.out _ G11.out).mono ?_); rintro e w12 ⟨rfl, hb⟩; have B12 := Lib.hid (B11.out.trans (hb.mono B11.out.size)); have G12 := Lib.hid (G11.out.keep hb); clear hb B11 G11)
    | (go_at_call 39; (with_reducible refine (D12.out _ G12.out).mono ?_); rintro e w13 ⟨rfl, hb⟩; have B13 := Lib.hid (B12.out.trans (hb.mono B12.out.size)); have G13 := Lib.hid (G12.out.keep hb); clear hb B12 G12)
    | (go_at_call 35; (with_reducible refine (D13.out _ G13.out).mono ?_); rintro e w14 ⟨rfl, hb⟩; have B14 := Lib.hid (B13.out.trans (hb.mono B13.out.size)); have G14 := Lib.hid (G13.out.keep hb); clear hb B13 G13)
    | (go_at_call 61; (with_reducible refine (D14.out _ G14.out).mono ?_); rintro e w15 ⟨rfl, hb⟩; have B15 := Lib.hid (B14.out.trans (hb.mono B14.out.size)); have G15 := Lib.hid (G14.out.keep hb); clear hb B14 G14)
    | (go_at_call 43; (with_reducible refine (D15.out _ G15.out).mono ?_); rintro e w16 ⟨rfl, hb⟩; have B16 := Lib.hid (B15.out.trans (hb.mono B15.out.size)); have G16 := Lib.hid (G15.out.keep hb); clear hb B15 G15)
    | (go_at_call 37; (with_reducible refine (D16.out _ G16.out).mono ?_); rintro e w17 ⟨rfl, hb⟩; have B17 := Lib.hid (B16.out.trans (hb.mono B16.out.size)); have G17 := Lib.hid (G16.out.keep hb); clear hb B16 G16)
    | (go_at_call 43; (with_reducible refine (D17.out _ G17.out).mono ?_); rintro e w18 ⟨rfl, hb⟩; have B18 := Lib.hid (B17.out.trans (hb.mono B17.out.size)); have G18 := Lib.hid (G17.out.keep hb); clear hb B17 G17)
    | (go_at_call 41; (with_reducible refine (D18.out _ G18.out).mono ?_); rintro e w19 ⟨rfl, hb⟩; have B19 := Lib.hid (B18.out.trans (hb.mono B18.out.size)); have G19 := Lib.hid (G18.out.keep hb); clear hb B18 G18)
    | (go_at_call 39; (with_reducible refine (D19.out _ G19.out).mono ?_); rintro e w20 ⟨rfl, hb⟩; have B20 := Lib.hid (B19.out.trans (hb.mono B19.out.size)); have G20 := Lib.hid (G19.out.keep hb); clear hb B19 G19)
    | (go_at_call 53; (with_reducible refine (D20.out _ G20.out).mono ?_); rintro e w21 ⟨rfl, hb⟩; have B21 := Lib.hid (B20.out.trans (hb.mono B20.out.size)); have G21 := Lib.hid (G20.out.keep hb); clear hb B20 G20)
    | (go_at_call 43; (with_reducible refine (D21.out _ G21.out).mono ?_); rintro e w22 ⟨rfl, hb⟩; have B22 := Lib.hid (B21.out.trans (hb.mono B21.out.size)); have G22 := Lib.hid (G21.out.keep hb); clear hb B21 G21)
    | (go_at_call 21; (with_reducible refine (D22.out _ G22.out).mono ?_); rintro e w23 ⟨rfl, hb⟩; have B23 := Lib.hid (B22.out.trans (hb.mono B22.out.size)); have G23 := Lib.hid (G22.out.keep hb); clear hb B22 G22)
    | (go_at_call 43; (with_reducible refine (D23.out _ G23.out).mono ?_); rintro e w24 ⟨rfl, hb⟩; have B24 := Lib.hid (B23.out.trans (hb.mono B23.out.size)); have G24 := Lib.hid (G23.out.keep hb); clear hb B23 G23))
  go_ret
  exact ⟨rfl, B24.out⟩
set_option maxHeartbeats 4000000 in
set_option maxRecDepth 20000 in
theorem field_gtz (a b c ab bc x p r s mi n nx : ByteArray) (E1 E2 lo hi : Int)
    (d1 : decide ((60 : Int) < (a.size : Int)) = false) (d2 : decide ((60 : Int) < (b.size : Int)) = false) (d3 : decide ((60 : Int) < (c.size : Int)) = false)
    (de : (a.toList == b.toList) = false) (dz : (b.toList == [48, 47, 49]) = true) (sn : n.size ≤ 200) (snx : nx.size ≤ 200) (dlo : decide (lo ≤ (0 : Int)) = true) (dhi : decide ((0 : Int) < hi) = true)
    (C0 : ∀ w, Gl w → Calls Tryz.prog 10 #[] w fun e w' => e = .returned (.bool true) ∧ Below w.heap.size w w')
    (C1 : ∀ w, Gl w → Calls Tryz.prog 45 #[.string a] w fun e w' => e = .returned (.int .i64 0) ∧ Below w.heap.size w w')
    (C2 : ∀ w, Gl w → Calls Tryz.prog 45 #[.string b] w fun e w' => e = .returned (.int .i64 0) ∧ Below w.heap.size w w')
    (C3 : ∀ w, Gl w → Calls Tryz.prog 45 #[.string c] w fun e w' => e = .returned (.int .i64 0) ∧ Below w.heap.size w w')
    (C4 : ∀ w, Gl w → Calls Tryz.prog 35 #[.string a, .string b] w fun e w' => e = .returned (.tuple #[.string ab, .int .i64 0]) ∧ Below w.heap.size w w')
    (C5 : ∀ w, Gl w → Calls Tryz.prog 35 #[.string b, .string c] w fun e w' => e = .returned (.tuple #[.string bc, .int .i64 0]) ∧ Below w.heap.size w w')
    (C6 : ∀ w, Gl w → Calls Tryz.prog 35 #[.string ab, .string c] w fun e w' => e = .returned (.tuple #[.string x, .int .i64 E1]) ∧ Below w.heap.size w w')
    (C7 : ∀ w, Gl w → Calls Tryz.prog 35 #[.string a, .string bc] w fun e w' => e = .returned (.tuple #[.string x, .int .i64 E1]) ∧ Below w.heap.size w w')
    (C8 : ∀ w, Gl w → Calls Tryz.prog 39 #[.string a, .string b] w fun e w' => e = .returned (.tuple #[.string p, .int .i64 0]) ∧ Below w.heap.size w w')
    (C9 : ∀ w, Gl w → Calls Tryz.prog 39 #[.string b, .string a] w fun e w' => e = .returned (.tuple #[.string p, .int .i64 0]) ∧ Below w.heap.size w w')
    (C10 : ∀ w, Gl w → Calls Tryz.prog 61 #[.string x, .int .i64 E1, .string x, .int .i64 E1] w fun e w' => e = .returned (.bool true) ∧ Below w.heap.size w w')
    (C11 : ∀ w, Gl w → Calls Tryz.prog 39 #[.string a, .string bc] w fun e w' => e = .returned (.tuple #[.string r, .int .i64 E2]) ∧ Below w.heap.size w w')
    (C12 : ∀ w, Gl w → Calls Tryz.prog 39 #[.string a, .string c] w fun e w' => e = .returned (.tuple #[.string s, .int .i64 0]) ∧ Below w.heap.size w w')
    (C13 : ∀ w, Gl w → Calls Tryz.prog 35 #[.string p, .string s] w fun e w' => e = .returned (.tuple #[.string r, .int .i64 E2]) ∧ Below w.heap.size w w')
    (C14 : ∀ w, Gl w → Calls Tryz.prog 61 #[.string r, .int .i64 E2, .string r, .int .i64 E2] w fun e w' => e = .returned (.bool true) ∧ Below w.heap.size w w')
    (C15 : ∀ w, Gl w → Calls Tryz.prog 43 #[.string a, .string b] w fun e w' => e = .returned (.tuple #[.int .i64 1, .int .i64 0]) ∧ Below w.heap.size w w')
    (C16 : ∀ w, Gl w → Calls Tryz.prog 37 #[.string a, .string b] w fun e w' => e = .returned (.tuple #[.string mi, .int .i64 0]) ∧ Below w.heap.size w w')
    (C17 : ∀ w, Gl w → Calls Tryz.prog 43 #[.string mi, .string ⟨#[48, 47, 49]⟩] w fun e w' => e = .returned (.tuple #[.int .i64 1, .int .i64 0]) ∧ Below w.heap.size w w')
    (C18 : ∀ w, Gl w → Calls Tryz.prog 53 #[.string a] w fun e w' => e = .returned (.tuple #[.string n, .int .i64 0]) ∧ Below w.heap.size w w')
    (C19 : ∀ w, Gl w → Calls Tryz.prog 43 #[.string (n ++ ⟨#[47, 49]⟩), .string a] w fun e w' => e = .returned (.tuple #[.int .i64 lo, .int .i64 0]) ∧ Below w.heap.size w w')
    (C20 : ∀ w, Gl w → Calls Tryz.prog 21 #[.string n, .string ⟨#[49]⟩] w fun e w' => e = .returned (.tuple #[.string nx, .int .i64 0]) ∧ Below w.heap.size w w')
    (C21 : ∀ w, Gl w → Calls Tryz.prog 43 #[.string (nx ++ ⟨#[47, 49]⟩), .string a] w fun e w' => e = .returned (.tuple #[.int .i64 hi, .int .i64 0]) ∧ Below w.heap.size w w')
    (w : World) (hg : Gl w) : Calls Tryz.prog 9 #[.string a, .string b, .string c] w fun e w' => e = .returned (.bool true) ∧ Below w.heap.size w w' := by
  have D0 := Lib.hid C0; clear C0
  have D1 := Lib.hid C1; clear C1
  have D2 := Lib.hid C2; clear C2
  have D3 := Lib.hid C3; clear C3
  have D4 := Lib.hid C4; clear C4
  have D5 := Lib.hid C5; clear C5
  have D6 := Lib.hid C6; clear C6
  have D7 := Lib.hid C7; clear C7
  have D8 := Lib.hid C8; clear C8
  have D9 := Lib.hid C9; clear C9
  have D10 := Lib.hid C10; clear C10
  have D11 := Lib.hid C11; clear C11
  have D12 := Lib.hid C12; clear C12
  have D13 := Lib.hid C13; clear C13
  have D14 := Lib.hid C14; clear C14
  have D15 := Lib.hid C15; clear C15
  have D16 := Lib.hid C16; clear C16
  have D17 := Lib.hid C17; clear C17
  have D18 := Lib.hid C18; clear C18
  have D19 := Lib.hid C19; clear C19
  have D20 := Lib.hid C20; clear C20
  have D21 := Lib.hid C21; clear C21
  have G0 := Lib.hid hg
  have B0 := Lib.hid (Below.refl w.heap.size w); clear hg
  go_enter Tryz.func9, Tryz.ntmps9
  go_wp2_with (first
    | (go_at_call 10; (with_reducible refine (D0.out _ G0.out).mono ?_); rintro e w1 ⟨rfl, hb⟩; have B1 := Lib.hid (B0.out.trans (hb.mono B0.out.size)); have G1 := Lib.hid (G0.out.keep hb); clear hb B0 G0)
    | (go_at_call 45; (with_reducible refine (D1.out _ G1.out).mono ?_); rintro e w2 ⟨rfl, hb⟩; have B2 := Lib.hid (B1.out.trans (hb.mono B1.out.size)); have G2 := Lib.hid (G1.out.keep hb); clear hb B1 G1)
    | (go_at_call 45; (with_reducible refine (D2.out _ G2.out).mono ?_); rintro e w3 ⟨rfl, hb⟩; have B3 := Lib.hid (B2.out.trans (hb.mono B2.out.size)); have G3 := Lib.hid (G2.out.keep hb); clear hb B2 G2)
    | (go_at_call 45; (with_reducible refine (D3.out _ G3.out).mono ?_); rintro e w4 ⟨rfl, hb⟩; have B4 := Lib.hid (B3.out.trans (hb.mono B3.out.size)); have G4 := Lib.hid (G3.out.keep hb); clear hb B3 G3)
    | (go_at_call 35; (with_reducible refine (D4.out _ G4.out).mono ?_); rintro e w5 ⟨rfl, hb⟩; have B5 := Lib.hid (B4.out.trans (hb.mono B4.out.size)); have G5 := Lib.hid (G4.out.keep hb); clear hb B4 G4)
    | (go_at_call 35; (with_reducible refine (D5.out _ G5.out).mono ?_); rintro e w6 ⟨rfl, hb⟩; have B6 := Lib.hid (B5.out.trans (hb.mono B5.out.size)); have G6 := Lib.hid (G5.out.keep hb); clear hb B5 G5)
    | (go_at_call 35; (with_reducible refine (D6.out _ G6.out).mono ?_); rintro e w7 ⟨rfl, hb⟩; have B7 := Lib.hid (B6.out.trans (hb.mono B6.out.size)); have G7 := Lib.hid (G6.out.keep hb); clear hb B6 G6)
    | (go_at_call 35; (with_reducible refine (D7.out _ G7.out).mono ?_); rintro e w8 ⟨rfl, hb⟩; have B8 := Lib.hid (B7.out.trans (hb.mono B7.out.size)); have G8 := Lib.hid (G7.out.keep hb); clear hb B7 G7)
    | (go_at_call 39; (with_reducible refine (D8.out _ G8.out).mono ?_); rintro e w9 ⟨rfl, hb⟩; have B9 := Lib.hid (B8.out.trans (hb.mono B8.out.size)); have G9 := Lib.hid (G8.out.keep hb); clear hb B8 G8)
    | (go_at_call 39; (with_reducible refine (D9.out _ G9.out).mono ?_); rintro e w10 ⟨rfl, hb⟩; have B10 := Lib.hid (B9.out.trans (hb.mono B9.out.size)); have G10 := Lib.hid (G9.out.keep hb); clear hb B9 G9)
    | (go_at_call 61; (with_reducible refine (D10.out _ G10.out).mono ?_); rintro e w11 ⟨rfl, hb⟩; have B11 := Lib.hid (B10.out.trans (hb.mono B10.out.size)); have G11 := Lib.hid (G10.out.keep hb); clear hb B10 G10)
    | (go_at_call 39; (with_reducible refine (D11.out _ G11.out).mono ?_); rintro e w12 ⟨rfl, hb⟩; have B12 := Lib.hid (B11.out.trans (hb.mono B11.out.size)); have G12 := Lib.hid (G11.out.keep hb); clear hb B11 G11)
    | (go_at_call 39; (with_reducible refine (D12.out _ G12.out).mono ?_); rintro e w13 ⟨rfl, hb⟩; have B13 := Lib.hid (B12.out.trans (hb.mono B12.out.size)); have G13 := Lib.hid (G12.out.keep hb); clear hb B12 G12)
    | (go_at_call 35; (with_reducible refine (D13.out _ G13.out).mono ?_); rintro e w14 ⟨rfl, hb⟩; have B14 := Lib.hid (B13.out.trans (hb.mono B13.out.size)); have G14 := Lib.hid (G13.out.keep hb); clear hb B13 G13)
    | (go_at_call 61; (with_reducible refine (D14.out _ G14.out).mono ?_); rintro e w15 ⟨rfl, hb⟩; have B15 := Lib.hid (B14.out.trans (hb.mono B14.out.size)); have G15 := Lib.hid (G14.out.keep hb); clear hb B14 G14)
    | (go_at_call 43; (with_reducible refine (D15.out _ G15.out).mono ?_); rintro e w16 ⟨rfl, hb⟩; have B16 := Lib.hid (B15.out.trans (hb.mono B15.out.size)); have G16 := Lib.hid (G15.out.keep hb); clear hb B15 G15)
    | (go_at_call 37; (with_reducible refine (D16.out _ G16.out).mono ?_); rintro e w17 ⟨rfl, hb⟩; have B17 := Lib.hid (B16.out.trans (hb.mono B16.out.size)); have G17 := Lib.hid (G16.out.keep hb); clear hb B16 G16)
    | (go_at_call 43; (with_reducible refine (D17.out _ G17.out).mono ?_); rintro e w18 ⟨rfl, hb⟩; have B18 := Lib.hid (B17.out.trans (hb.mono B17.out.size)); have G18 := Lib.hid (G17.out.keep hb); clear hb B17 G17)
    | (go_at_call 53; (with_reducible refine (D18.out _ G18.out).mono ?_); rintro e w19 ⟨rfl, hb⟩; have B19 := Lib.hid (B18.out.trans (hb.mono B18.out.size)); have G19 := Lib.hid (G18.out.keep hb); clear hb B18 G18)
    | (go_at_call 43; (with_reducible refine (D19.out _ G19.out).mono ?_); rintro e w20 ⟨rfl, hb⟩; have B20 := Lib.hid (B19.out.trans (hb.mono B19.out.size)); have G20 := Lib.hid (G19.out.keep hb); clear hb B19 G19)
    | (go_at_call 21; (with_reducible refine (D20.out _ G20.out).mono ?_); rintro e w21 ⟨rfl, hb⟩; have B21 := Lib.hid (B20.out.trans (hb.mono B20.out.size)); have G21 := Lib.hid (G20.out.keep hb); clear hb B20 G20)
    | (go_at_call 43; (with_reducible refine (D21.out _ G21.out).mono ?_); rintro e w22 ⟨rfl, hb⟩; have B22 := Lib.hid (B21.out.trans (hb.mono B21.out.size)); have G22 := Lib.hid (G21.out.keep hb); clear hb B21 G21))
  go_ret
  exact ⟨rfl, B22.out⟩
set_option maxHeartbeats 4000000 in
set_option maxRecDepth 20000 in
theorem field_gt (a b c ab bc x p r s mi n nx d : ByteArray) (E1 E2 lo hi : Int)
    (d1 : decide ((60 : Int) < (a.size : Int)) = false) (d2 : decide ((60 : Int) < (b.size : Int)) = false) (d3 : decide ((60 : Int) < (c.size : Int)) = false)
    (de : (a.toList == b.toList) = false) (dz : (b.toList == [48, 47, 49]) = false) (sn : n.size ≤ 200) (snx : nx.size ≤ 200) (dlo : decide (lo ≤ (0 : Int)) = true) (dhi : decide ((0 : Int) < hi) = true)
    (C0 : ∀ w, Gl w → Calls Tryz.prog 10 #[] w fun e w' => e = .returned (.bool true) ∧ Below w.heap.size w w')
    (C1 : ∀ w, Gl w → Calls Tryz.prog 45 #[.string a] w fun e w' => e = .returned (.int .i64 0) ∧ Below w.heap.size w w')
    (C2 : ∀ w, Gl w → Calls Tryz.prog 45 #[.string b] w fun e w' => e = .returned (.int .i64 0) ∧ Below w.heap.size w w')
    (C3 : ∀ w, Gl w → Calls Tryz.prog 45 #[.string c] w fun e w' => e = .returned (.int .i64 0) ∧ Below w.heap.size w w')
    (C4 : ∀ w, Gl w → Calls Tryz.prog 35 #[.string a, .string b] w fun e w' => e = .returned (.tuple #[.string ab, .int .i64 0]) ∧ Below w.heap.size w w')
    (C5 : ∀ w, Gl w → Calls Tryz.prog 35 #[.string b, .string c] w fun e w' => e = .returned (.tuple #[.string bc, .int .i64 0]) ∧ Below w.heap.size w w')
    (C6 : ∀ w, Gl w → Calls Tryz.prog 35 #[.string ab, .string c] w fun e w' => e = .returned (.tuple #[.string x, .int .i64 E1]) ∧ Below w.heap.size w w')
    (C7 : ∀ w, Gl w → Calls Tryz.prog 35 #[.string a, .string bc] w fun e w' => e = .returned (.tuple #[.string x, .int .i64 E1]) ∧ Below w.heap.size w w')
    (C8 : ∀ w, Gl w → Calls Tryz.prog 39 #[.string a, .string b] w fun e w' => e = .returned (.tuple #[.string p, .int .i64 0]) ∧ Below w.heap.size w w')
    (C9 : ∀ w, Gl w → Calls Tryz.prog 39 #[.string b, .string a] w fun e w' => e = .returned (.tuple #[.string p, .int .i64 0]) ∧ Below w.heap.size w w')
    (C10 : ∀ w, Gl w → Calls Tryz.prog 61 #[.string x, .int .i64 E1, .string x, .int .i64 E1] w fun e w' => e = .returned (.bool true) ∧ Below w.heap.size w w')
    (C11 : ∀ w, Gl w → Calls Tryz.prog 39 #[.string a, .string bc] w fun e w' => e = .returned (.tuple #[.string r, .int .i64 E2]) ∧ Below w.heap.size w w')
    (C12 : ∀ w, Gl w → Calls Tryz.prog 39 #[.string a, .string c] w fun e w' => e = .returned (.tuple #[.string s, .int .i64 0]) ∧ Below w.heap.size w w')
    (C13 : ∀ w, Gl w → Calls Tryz.prog 35 #[.string p, .string s] w fun e w' => e = .returned (.tuple #[.string r, .int .i64 E2]) ∧ Below w.heap.size w w')
    (C14 : ∀ w, Gl w → Calls Tryz.prog 61 #[.string r, .int .i64 E2, .string r, .int .i64 E2] w fun e w' => e = .returned (.bool true) ∧ Below w.heap.size w w')
    (C15 : ∀ w, Gl w → Calls Tryz.prog 43 #[.string a, .string b] w fun e w' => e = .returned (.tuple #[.int .i64 1, .int .i64 0]) ∧ Below w.heap.size w w')
    (C16 : ∀ w, Gl w → Calls Tryz.prog 37 #[.string a, .string b] w fun e w' => e = .returned (.tuple #[.string mi, .int .i64 0]) ∧ Below w.heap.size w w')
    (C17 : ∀ w, Gl w → Calls Tryz.prog 43 #[.string mi, .string ⟨#[48, 47, 49]⟩] w fun e w' => e = .returned (.tuple #[.int .i64 1, .int .i64 0]) ∧ Below w.heap.size w w')
    (C18 : ∀ w, Gl w → Calls Tryz.prog 41 #[.string a, .string b] w fun e w' => e = .returned (.tuple #[.string d, .int .i64 0]) ∧ Below w.heap.size w w')
    (C19 : ∀ w, Gl w → Calls Tryz.prog 39 #[.string d, .string b] w fun e w' => e = .returned (.tuple #[.string a, .int .i64 0]) ∧ Below w.heap.size w w')
    (C20 : ∀ w, Gl w → Calls Tryz.prog 53 #[.string a] w fun e w' => e = .returned (.tuple #[.string n, .int .i64 0]) ∧ Below w.heap.size w w')
    (C21 : ∀ w, Gl w → Calls Tryz.prog 43 #[.string (n ++ ⟨#[47, 49]⟩), .string a] w fun e w' => e = .returned (.tuple #[.int .i64 lo, .int .i64 0]) ∧ Below w.heap.size w w')
    (C22 : ∀ w, Gl w → Calls Tryz.prog 21 #[.string n, .string ⟨#[49]⟩] w fun e w' => e = .returned (.tuple #[.string nx, .int .i64 0]) ∧ Below w.heap.size w w')
    (C23 : ∀ w, Gl w → Calls Tryz.prog 43 #[.string (nx ++ ⟨#[47, 49]⟩), .string a] w fun e w' => e = .returned (.tuple #[.int .i64 hi, .int .i64 0]) ∧ Below w.heap.size w w')
    (w : World) (hg : Gl w) : Calls Tryz.prog 9 #[.string a, .string b, .string c] w fun e w' => e = .returned (.bool true) ∧ Below w.heap.size w w' := by
  have D0 := Lib.hid C0; clear C0
  have D1 := Lib.hid C1; clear C1
  have D2 := Lib.hid C2; clear C2
  have D3 := Lib.hid C3; clear C3
  have D4 := Lib.hid C4; clear C4
  have D5 := Lib.hid C5; clear C5
  have D6 := Lib.hid C6; clear C6
  have D7 := Lib.hid C7; clear C7
  have D8 := Lib.hid C8; clear C8
  have D9 := Lib.hid C9; clear C9
  have D10 := Lib.hid C10; clear C10
  have D11 := Lib.hid C11; clear C11
  have D12 := Lib.hid C12; clear C12
  have D13 := Lib.hid C13; clear C13
  have D14 := Lib.hid C14; clear C14
  have D15 := Lib.hid C15; clear C15
  have D16 := Lib.hid C16; clear C16
  have D17 := Lib.hid C17; clear C17
  have D18 := Lib.hid C18; clear C18
  have D19 := Lib.hid C19; clear C19
  have D20 := Lib.hid C20; clear C20
  have D21 := Lib.hid C21; clear C21
  have D22 := Lib.hid C22; clear C22
  have D23 := Lib.hid C23; clear C23
  have G0 := Lib.hid hg
  have B0 := Lib.hid (Below.refl w.heap.size w); clear hg
  go_enter Tryz.func9, Tryz.ntmps9
  go_wp2_with (first
    | (go_at_call 10; (with_reducible refine (D0.out _ G0.out).mono ?_); rintro e w1 ⟨rfl, hb⟩; have B1 := Lib.hid (B0.out.trans (hb.mono B0.out.size)); have G1 := Lib.hid (G0.out.keep hb); clear hb B0 G0)
    | (go_at_call 45; (with_reducible refine (D1.out _ G1.out).mono ?_); rintro e w2 ⟨rfl, hb⟩; have B2 := Lib.hid (B1.out.trans (hb.mono B1.out.size)); have G2 := Lib.hid (G1.out.keep hb); clear hb B1 G1)
    | (go_at_call 45; (with_reducible refine (D2.out _ G2.out).mono ?_); rintro e w3 ⟨rfl, hb⟩; have B3 := Lib.hid (B2.out.trans (hb.mono B2.out.size)); have G3 := Lib.hid (G2.out.keep hb); clear hb B2 G2)
    | (go_at_call 45; (with_reducible refine (D3.out _ G3.out).mono ?_); rintro e w4 ⟨rfl, hb⟩; have B4 := Lib.hid (B3.out.trans (hb.mono B3.out.size)); have G4 := Lib.hid (G3.out.keep hb); clear hb B3 G3)
    | (go_at_call 35; (with_reducible refine (D4.out _ G4.out).mono ?_); rintro e w5 ⟨rfl, hb⟩; have B5 := Lib.hid (B4.out.trans (hb.mono B4.out.size)); have G5 := Lib.hid (G4.out.keep hb); clear hb B4 G4)
    | (go_at_call 35; (with_reducible refine (D5.out _ G5.out).mono ?_); rintro e w6 ⟨rfl, hb⟩; have B6 := Lib.hid (B5.out.trans (hb.mono B5.out.size)); have G6 := Lib.hid (G5.out.keep hb); clear hb B5 G5)
    | (go_at_call 35; (with_reducible refine (D6.out _ G6.out).mono ?_); rintro e w7 ⟨rfl, hb⟩; have B7 := Lib.hid (B6.out.trans (hb.mono B6.out.size)); have G7 := Lib.hid (G6.out.keep hb); clear hb B6 G6)
    | (go_at_call 35; (with_reducible refine (D7.out _ G7.out).mono ?_); rintro e w8 ⟨rfl, hb⟩; have B8 := Lib.hid (B7.out.trans (hb.mono B7.out.size)); have G8 := Lib.hid (G7.out.keep hb); clear hb B7 G7)
    | (go_at_call 39; (with_reducible refine (D8.out _ G8.out).mono ?_); rintro e w9 ⟨rfl, hb⟩; have B9 := Lib.hid (B8.out.trans (hb.mono B8.out.size)); have G9 := Lib.hid (G8.out.keep hb); clear hb B8 G8)
    | (go_at_call 39; (with_reducible refine (D9.out _ G9.out).mono ?_); rintro e w10 ⟨rfl, hb⟩; have B10 := Lib.hid (B9.out.trans (hb.mono B9.out.size)); have G10 := Lib.hid (G9.out.keep hb); clear hb B9 G9)
    | (go_at_call 61; (with_reducible refine (D10.out _ G10.out).mono ?_); rintro e w11 ⟨rfl, hb⟩; have B11 := Lib.hid (B10.out.trans (hb.mono B10.out.size)); have G11 := Lib.hid (G10.out.keep hb); clear hb B10 G10)
    | (go_at_call 39; (with_reducible refine (D11.out _ G11.out).mono ?_); rintro e w12 ⟨rfl, hb⟩; have B12 := Lib.hid (B11.out.trans (hb.mono B11.out.size)); have G12 := Lib.hid (G11.out.keep hb); clear hb B11 G11)
    | (go_at_call 39; (with_reducible refine (D12.out _ G12.out).mono ?_); rintro e w13 ⟨rfl, hb⟩; have B13 := Lib.hid (B12.out.trans (hb.mono B12.out.size)); have G13 := Lib.hid (G12.out.keep hb); clear hb B12 G12)
    | (go_at_call 35; (with_reducible refine (D13.out _ G13.out).mono ?_); rintro e w14 ⟨rfl, hb⟩; have B14 := Lib.hid (B13.out.trans (hb.mono B13.out.size)); have G14 := Lib.hid (G13.out.keep hb); clear hb B13 G13)
    | (go_at_call 61; (with_reducible refine (D14.out _ G14.out).mono ?_); rintro e w15 ⟨rfl, hb⟩; have B15 := Lib.hid (B14.out.trans (hb.mono B14.out.size)); have G15 := Lib.hid (G14.out.keep hb); clear hb B14 G14)
    | (go_at_call 43; (with_reducible refine (D15.out _ G15.out).mono ?_); rintro e w16 ⟨rfl, hb⟩; have B16 := Lib.hid (B15.out.trans (hb.mono B15.out.size)); have G16 := Lib.hid (G15.out.keep hb); clear hb B15 G15)
    | (go_at_call 37; (with_reducible refine (D16.out _ G16.out).mono ?_); rintro e w17 ⟨rfl, hb⟩; have B17 := Lib.hid (B16.out.trans (hb.mono B16.out.size)); have G17 := Lib.hid (G16.out.keep hb); clear hb B16 G16)
    | (go_at_call 43; (with_reducible refine (D17.out _ G17.out).mono ?_); rintro e w18 ⟨rfl, hb⟩; have B18 := Lib.hid (B17.out.trans (hb.mono B17.out.size)); have G18 := Lib.hid (G17.out.keep hb); clear hb B17 G17)
    | (go_at_call 41; (with_reducible refine (D18.out _ G18.out).mono ?_); rintro e w19 ⟨rfl, hb⟩; have B19 := Lib.hid (B18.out.trans (hb.mono B18.out.size)); have G19 := Lib.hid (G18.out.keep hb); clear hb B18 G18)
    | (go_at_call 39; (with_reducible refine (D19.out _ G19.out).mono ?_); rintro e w20 ⟨rfl, hb⟩; have B20 := Lib.hid (B19.out.trans (hb.mono B19.out.size)); have G20 := Lib.hid (G19.out.keep hb); clear hb B19 G19)
    | (go_at_call 53; (with_reducible refine (D20.out _ G20.out).mono ?_); rintro e w21 ⟨rfl, hb⟩; have B21 := Lib.hid (B20.out.trans (hb.mono B20.out.size)); have G21 := Lib.hid (G20.out.keep hb); clear hb B20 G20)
    | (go_at_call 43; (with_reducible refine (D21.out _ G21.out).mono ?_); rintro e w22 ⟨rfl, hb⟩; have B22 := Lib.hid (B21.out.trans (hb.mono B21.out.size)); have G22 := Lib.hid (G21.out.keep hb); clear hb B21 G21)
    | (go_at_call 21; (with_reducible refine (D22.out _ G22.out).mono ?_); rintro e w23 ⟨rfl, hb⟩; have B23 := Lib.hid (B22.out.trans (hb.mono B22.out.size)); have G23 := Lib.hid (G22.out.keep hb); clear hb B22 G22)
    | (go_at_call 43; (with_reducible refine (D23.out _ G23.out).mono ?_); rintro e w24 ⟨rfl, hb⟩; have B24 := Lib.hid (B23.out.trans (hb.mono B23.out.size)); have G24 := Lib.hid (G23.out.keep hb); clear hb B23 G23))
  go_ret
  exact ⟨rfl, B24.out⟩
end Go.Proofs.YtpbegoflpfdajaaGreatDoor

/- WHAT IS PROVED: contracts of functions of the numbers package and laws for them, used by the last text of this claim. CONDITIONS: stated at each theorem. -/
import Derived.Test.YtpbegoflpfdajaaGreatDoorN49
namespace Go.Proofs.YtpbegoflpfdajaaGreatDoor
section
open Go.RowKit
set_option maxHeartbeats 4000000 in
set_option maxRecDepth 20000 in
theorem ints_walk (a b t s3 s4 s5 s6 s7 r7 s9 s10 : ByteArray) (n k c E1 E2 E3 E4 E5 E6 E7 E8 E9 E10 : Int)
    (A10 : ∀ w, Gl w -> Calls Tryz.prog 10 #[] w fun e w' => e = .returned (.bool true) /\ Below w.heap.size w w')
    (A11 : ∀ (W : World) (g c : Nat), (∀ i (h : i < [a, b].length), W.cell? ⟨g, i, none⟩ = some (.string [a, b][i])) -> Calls Tryz.prog 11 #[.slice (some ⟨g, 0, none⟩) 2 c] W fun e w' => e = .returned (.bool false) /\ w' = W)
    (A12 : ∀ w, Gl w -> Calls Tryz.prog 12 #[.string a] w fun e w' => e = .returned (.int .i64 E1) /\ Below w.heap.size w w')
    (A13 : ∀ w, Calls Tryz.prog 13 #[.string a] w fun e w' => e = .returned (.int .i64 E1) /\ Below w.heap.size w w')
    (A14 : ∀ w, Gl w -> Calls Tryz.prog 14 #[.int .i64 n] w fun e w' => e = .returned (.string t) /\ Below w.heap.size w w')
    (A15 : ∀ w, Calls Tryz.prog 15 #[.int .i64 n] w fun e w' => e = .returned (.string t) /\ Below w.heap.size w w')
    (A16 : ∀ w, Gl w -> Calls Tryz.prog 16 #[.string a] w fun e w' => e = .returned (.tuple #[.int .i64 k, .int .i64 E2]) /\ Below w.heap.size w w')
    (A17 : ∀ w, Calls Tryz.prog 17 #[.string a] w fun e w' => e = .returned (.tuple #[.int .i64 k, .int .i64 E2]) /\ Below w.heap.size w w')
    (A18 : ∀ w, Gl w -> Calls Tryz.prog 18 #[.string a] w fun e w' => e = .returned (.tuple #[.string s3, .int .i64 E3]) /\ Below w.heap.size w w')
    (A19 : ∀ w, Calls Tryz.prog 19 #[.string a] w fun e w' => e = .returned (.tuple #[.string s3, .int .i64 E3]) /\ Below w.heap.size w w')
    (A21 : ∀ w, Gl w -> Calls Tryz.prog 21 #[.string a, .string b] w fun e w' => e = .returned (.tuple #[.string s4, .int .i64 E4]) /\ Below w.heap.size w w')
    (A22 : ∀ w, Calls Tryz.prog 22 #[.string a, .string b] w fun e w' => e = .returned (.tuple #[.string s4, .int .i64 E4]) /\ Below w.heap.size w w')
    (A23 : ∀ w, Gl w -> Calls Tryz.prog 23 #[.string a, .string b] w fun e w' => e = .returned (.tuple #[.string s5, .int .i64 E5]) /\ Below w.heap.size w w')
    (A24 : ∀ w, Calls Tryz.prog 24 #[.string a, .string b] w fun e w' => e = .returned (.tuple #[.string s5, .int .i64 E5]) /\ Below w.heap.size w w')
    (A25 : ∀ w, Gl w -> Calls Tryz.prog 25 #[.string a, .string b] w fun e w' => e = .returned (.tuple #[.string s6, .int .i64 E6]) /\ Below w.heap.size w w')
    (A26 : ∀ w, Calls Tryz.prog 26 #[.string a, .string b] w fun e w' => e = .returned (.tuple #[.string s6, .int .i64 E6]) /\ Below w.heap.size w w')
    (A27 : ∀ w, Gl w -> Calls Tryz.prog 27 #[.string a, .string b] w fun e w' => e = .returned (.tuple #[.string s7, .string r7, .int .i64 E7]) /\ Below w.heap.size w w')
    (A28 : ∀ w, Calls Tryz.prog 28 #[.string a, .string b] w fun e w' => e = .returned (.tuple #[.string s7, .string r7, .int .i64 E7]) /\ Below w.heap.size w w')
    (A29 : ∀ w, Gl w -> Calls Tryz.prog 29 #[.string a, .string b] w fun e w' => e = .returned (.tuple #[.int .i64 c, .int .i64 E8]) /\ Below w.heap.size w w')
    (A30 : ∀ w, Calls Tryz.prog 30 #[.string a, .string b] w fun e w' => e = .returned (.tuple #[.int .i64 c, .int .i64 E8]) /\ Below w.heap.size w w')
    (A31 : ∀ w, Gl w -> Calls Tryz.prog 31 #[.string a, .int .i64 n] w fun e w' => e = .returned (.tuple #[.string s9, .int .i64 E9]) /\ Below w.heap.size w w')
    (A32 : ∀ w, Calls Tryz.prog 32 #[.string a, .int .i64 n] w fun e w' => e = .returned (.tuple #[.string s9, .int .i64 E9]) /\ Below w.heap.size w w')
    (A33 : ∀ w, Gl w -> Calls Tryz.prog 33 #[.string a, .string b] w fun e w' => e = .returned (.tuple #[.string s10, .int .i64 E10]) /\ Below w.heap.size w w')
    (A34 : ∀ w, Calls Tryz.prog 34 #[.string a, .string b] w fun e w' => e = .returned (.tuple #[.string s10, .int .i64 E10]) /\ Below w.heap.size w w')
    (w : World) (hg : Gl w) : Calls Tryz.prog 3 #[.string a, .string b, .int .i64 n] w fun e w' => e = .returned (.bool true) /\ Below w.heap.size w w' := by
  have D10 := Lib.hid A10; clear A10
  have D11 := Lib.hid A11; clear A11
  have D12 := Lib.hid A12; clear A12
  have D13 := Lib.hid A13; clear A13
  have D14 := Lib.hid A14; clear A14
  have D15 := Lib.hid A15; clear A15
  have D16 := Lib.hid A16; clear A16
  have D17 := Lib.hid A17; clear A17
  have D18 := Lib.hid A18; clear A18
  have D19 := Lib.hid A19; clear A19
  have D21 := Lib.hid A21; clear A21
  have D22 := Lib.hid A22; clear A22
  have D23 := Lib.hid A23; clear A23
  have D24 := Lib.hid A24; clear A24
  have D25 := Lib.hid A25; clear A25
  have D26 := Lib.hid A26; clear A26
  have D27 := Lib.hid A27; clear A27
  have D28 := Lib.hid A28; clear A28
  have D29 := Lib.hid A29; clear A29
  have D30 := Lib.hid A30; clear A30
  have D31 := Lib.hid A31; clear A31
  have D32 := Lib.hid A32; clear A32
  have D33 := Lib.hid A33; clear A33
  have D34 := Lib.hid A34; clear A34
  have Bo := Lib.hid both_any
  have G0 := Lib.hid hg
  have B0 := Lib.hid (Below.refl w.heap.size w); clear hg
  go_enter Tryz.func3, Tryz.ntmps3
  go_wp2_with (first
    | (go_at_call 10; (with_reducible refine (D10.out _ G0.out).mono ?_); rintro e w1 ⟨rfl, hb⟩; have B1 := Lib.hid (B0.out.trans (hb.mono B0.out.size)); have G1 := Lib.hid (G0.out.keep hb); clear hb B0 G0)
    | (go_at_call 11; (with_reducible refine (D11.out _ _ _ (str_cells _ _ _ _)).mono ?_); rintro e w2 ⟨rfl, hw⟩; have B2 : Hid (Below w.heap.size w w2) := Lib.hid (by rw [hw]; exact B1.out.alloc B1.out.size _); have G2 : Hid (Gl w2) := Lib.hid (by rw [hw]; exact G1.out.keep (by repeat' first | exact Below.refl _ _ | assumption | refine Below.setCell ?_ ?_ _ | refine Below.alloc ?_ ?_ _ | refine below_drewN ?_ | refine Below.drew ?_ | (simp; done) | (simp; omega))); clear hw B1 G1)
    | (go_at_call 12; (with_reducible refine (D12.out _ G2.out).mono ?_); rintro e w3 ⟨rfl, hb⟩; have B3 := Lib.hid (B2.out.trans (hb.mono B2.out.size)); have G3 := Lib.hid (G2.out.keep hb); clear hb B2 G2)
    | (go_at_call 13; (with_reducible refine (D13.out _).mono ?_); rintro e w4 ⟨rfl, hb⟩; have B4 := Lib.hid (B3.out.trans (hb.mono B3.out.size)); have G4 := Lib.hid (G3.out.keep hb); clear hb B3 G3)
    | (go_at_call 14; (with_reducible refine (D14.out _ G4.out).mono ?_); rintro e w5 ⟨rfl, hb⟩; have B5 := Lib.hid (B4.out.trans (hb.mono B4.out.size)); have G5 := Lib.hid (G4.out.keep hb); clear hb B4 G4)
    | (go_at_call 15; (with_reducible refine (D15.out _).mono ?_); rintro e w6 ⟨rfl, hb⟩; have B6 := Lib.hid (B5.out.trans (hb.mono B5.out.size)); have G6 := Lib.hid (G5.out.keep hb); clear hb B5 G5)
    | (go_at_call 16; (with_reducible refine (D16.out _ G6.out).mono ?_); rintro e w7 ⟨rfl, hb⟩; have B7 := Lib.hid (B6.out.trans (hb.mono B6.out.size)); have G7 := Lib.hid (G6.out.keep hb); clear hb B6 G6)
    | (go_at_call 17; (with_reducible refine (D17.out _).mono ?_); rintro e w8 ⟨rfl, hb⟩; have B8 := Lib.hid (B7.out.trans (hb.mono B7.out.size)); have G8 := Lib.hid (G7.out.keep hb); clear hb B7 G7)
    | (go_at_call 18; (with_reducible refine (D18.out _ G8.out).mono ?_); rintro e w9 ⟨rfl, hb⟩; have B9 := Lib.hid (B8.out.trans (hb.mono B8.out.size)); have G9 := Lib.hid (G8.out.keep hb); clear hb B8 G8)
    | (go_at_call 19; (with_reducible refine (D19.out _).mono ?_); rintro e w10 ⟨rfl, hb⟩; have B10 := Lib.hid (B9.out.trans (hb.mono B9.out.size)); have G10 := Lib.hid (G9.out.keep hb); clear hb B9 G9)
    | (go_at_call 20; (with_reducible refine (Bo.out s3 E3 _).mono ?_); rintro e w11 ⟨rfl, hw⟩; have B11 : Hid (Below w.heap.size w w11) := Lib.hid (by rw [hw]; exact B10.out); have G11 : Hid (Gl w11) := Lib.hid (by rw [hw]; exact G10.out); clear hw B10 G10)
    | (go_at_call 21; (with_reducible refine (D21.out _ G11.out).mono ?_); rintro e w12 ⟨rfl, hb⟩; have B12 := Lib.hid (B11.out.trans (hb.mono B11.out.size)); have G12 := Lib.hid (G11.out.keep hb); clear hb B11 G11)
    | (go_at_call 22; (with_reducible refine (D22.out _).mono ?_); rintro e w13 ⟨rfl, hb⟩; have B13 := Lib.hid (B12.out.trans (hb.mono B12.out.size)); have G13 := Lib.hid (G12.out.keep hb); clear hb B12 G12)
    | (go_at_call 20; (with_reducible refine (Bo.out s4 E4 _).mono ?_); rintro e w14 ⟨rfl, hw⟩; have B14 : Hid (Below w.heap.size w w14) := Lib.hid (by rw [hw]; exact B13.out); have G14 : Hid (Gl w14) := Lib.hid (by rw [hw]; exact G13.out); clear hw B13 G13)
    | (go_at_call 23; (with_reducible refine (D23.out _ G14.out).mono ?_); rintro e w15 ⟨rfl, hb⟩; have B15 := Lib.hid (B14.out.trans (hb.mono B14.out.size)); have G15 := Lib.hid (G14.out.keep hb); clear hb B14 G14)
    | (go_at_call 24; (with_reducible refine (D24.out _).mono ?_); rintro e w16 ⟨rfl, hb⟩; have B16 := Lib.hid (B15.out.trans (hb.mono B15.out.size)); have G16 := Lib.hid (G15.out.keep hb); clear hb B15 G15)
    | (go_at_call 20; (with_reducible refine (Bo.out s5 E5 _).mono ?_); rintro e w17 ⟨rfl, hw⟩; have B17 : Hid (Below w.heap.size w w17) := Lib.hid (by rw [hw]; exact B16.out); have G17 : Hid (Gl w17) := Lib.hid (by rw [hw]; exact G16.out); clear hw B16 G16)
    | (go_at_call 25; (with_reducible refine (D25.out _ G17.out).mono ?_); rintro e w18 ⟨rfl, hb⟩; have B18 := Lib.hid (B17.out.trans (hb.mono B17.out.size)); have G18 := Lib.hid (G17.out.keep hb); clear hb B17 G17)
    | (go_at_call 26; (with_reducible refine (D26.out _).mono ?_); rintro e w19 ⟨rfl, hb⟩; have B19 := Lib.hid (B18.out.trans (hb.mono B18.out.size)); have G19 := Lib.hid (G18.out.keep hb); clear hb B18 G18)
    | (go_at_call 20; (with_reducible refine (Bo.out s6 E6 _).mono ?_); rintro e w20 ⟨rfl, hw⟩; have B20 : Hid (Below w.heap.size w w20) := Lib.hid (by rw [hw]; exact B19.out); have G20 : Hid (Gl w20) := Lib.hid (by rw [hw]; exact G19.out); clear hw B19 G19)
    | (go_at_call 27; (with_reducible refine (D27.out _ G20.out).mono ?_); rintro e w21 ⟨rfl, hb⟩; have B21 := Lib.hid (B20.out.trans (hb.mono B20.out.size)); have G21 := Lib.hid (G20.out.keep hb); clear hb B20 G20)
    | (go_at_call 28; (with_reducible refine (D28.out _).mono ?_); rintro e w22 ⟨rfl, hb⟩; have B22 := Lib.hid (B21.out.trans (hb.mono B21.out.size)); have G22 := Lib.hid (G21.out.keep hb); clear hb B21 G21)
    | (go_at_call 20; (with_reducible refine (Bo.out r7 E7 _).mono ?_); rintro e w23 ⟨rfl, hw⟩; have B23 : Hid (Below w.heap.size w w23) := Lib.hid (by rw [hw]; exact B22.out); have G23 : Hid (Gl w23) := Lib.hid (by rw [hw]; exact G22.out); clear hw B22 G22)
    | (go_at_call 29; (with_reducible refine (D29.out _ G23.out).mono ?_); rintro e w24 ⟨rfl, hb⟩; have B24 := Lib.hid (B23.out.trans (hb.mono B23.out.size)); have G24 := Lib.hid (G23.out.keep hb); clear hb B23 G23)
    | (go_at_call 30; (with_reducible refine (D30.out _).mono ?_); rintro e w25 ⟨rfl, hb⟩; have B25 := Lib.hid (B24.out.trans (hb.mono B24.out.size)); have G25 := Lib.hid (G24.out.keep hb); clear hb B24 G24)
    | (go_at_call 31; (with_reducible refine (D31.out _ G25.out).mono ?_); rintro e w26 ⟨rfl, hb⟩; have B26 := Lib.hid (B25.out.trans (hb.mono B25.out.size)); have G26 := Lib.hid (G25.out.keep hb); clear hb B25 G25)
    | (go_at_call 32; (with_reducible refine (D32.out _).mono ?_); rintro e w27 ⟨rfl, hb⟩; have B27 := Lib.hid (B26.out.trans (hb.mono B26.out.size)); have G27 := Lib.hid (G26.out.keep hb); clear hb B26 G26)
    | (go_at_call 20; (with_reducible refine (Bo.out s9 E9 _).mono ?_); rintro e w28 ⟨rfl, hw⟩; have B28 : Hid (Below w.heap.size w w28) := Lib.hid (by rw [hw]; exact B27.out); have G28 : Hid (Gl w28) := Lib.hid (by rw [hw]; exact G27.out); clear hw B27 G27)
    | (go_at_call 33; (with_reducible refine (D33.out _ G28.out).mono ?_); rintro e w29 ⟨rfl, hb⟩; have B29 := Lib.hid (B28.out.trans (hb.mono B28.out.size)); have G29 := Lib.hid (G28.out.keep hb); clear hb B28 G28)
    | (go_at_call 34; (with_reducible refine (D34.out _).mono ?_); rintro e w30 ⟨rfl, hb⟩; have B30 := Lib.hid (B29.out.trans (hb.mono B29.out.size)); have G30 := Lib.hid (G29.out.keep hb); clear hb B29 G29)
    | (go_at_call 20; (with_reducible refine (Bo.out s10 E10 _).mono ?_); rintro e w31 ⟨rfl, hw⟩; have B31 : Hid (Below w.heap.size w w31) := Lib.hid (by rw [hw]; exact B30.out); have G31 : Hid (Gl w31) := Lib.hid (by rw [hw]; exact G30.out); clear hw B30 G30))
  go_ret
  exact ⟨rfl, B31.out⟩
end
section
open Go.RowKit
set_option maxHeartbeats 2000000 in
set_option maxRecDepth 20000 in
theorem ints_long (a b : ByteArray) (n : Int)
    (A10 : ∀ w, Gl w -> Calls Tryz.prog 10 #[] w fun e w' => e = .returned (.bool true) /\ Below w.heap.size w w')
    (A11 : ∀ (W : World) (g c : Nat), (∀ i (h : i < [a, b].length), W.cell? ⟨g, i, none⟩ = some (.string [a, b][i])) -> Calls Tryz.prog 11 #[.slice (some ⟨g, 0, none⟩) 2 c] W fun e w' => e = .returned (.bool true) /\ w' = W)
    (w : World) (hg : Gl w) : Calls Tryz.prog 3 #[.string a, .string b, .int .i64 n] w fun e w' => e = .returned (.bool true) /\ Below w.heap.size w w' := by
  have D10 := Lib.hid A10; clear A10
  have D11 := Lib.hid A11; clear A11
  have G0 := Lib.hid hg
  have B0 := Lib.hid (Below.refl w.heap.size w); clear hg
  go_enter Tryz.func3, Tryz.ntmps3
  go_wp2_with (first
    | (go_at_call 10; (with_reducible refine (D10.out _ G0.out).mono ?_); rintro e w1 ⟨rfl, hb⟩; have B1 := Lib.hid (B0.out.trans (hb.mono B0.out.size)); have G1 := Lib.hid (G0.out.keep hb); clear hb B0 G0)
    | (go_at_call 11; (with_reducible refine (D11.out _ _ _ (str_cells _ _ _ _)).mono ?_); rintro e w2 ⟨rfl, hw⟩; have B2 : Hid (Below w.heap.size w w2) := Lib.hid (by rw [hw]; exact B1.out.alloc B1.out.size _); have G2 : Hid (Gl w2) := Lib.hid (by rw [hw]; exact G1.out.keep (by repeat' first | exact Below.refl _ _ | assumption | refine Below.setCell ?_ ?_ _ | refine Below.alloc ?_ ?_ _ | refine below_drewN ?_ | refine Below.drew ?_ | (simp; done) | (simp; omega))); clear hw B1 G1)
    | (go_at_call 10; (with_reducible refine (D10.out _ G2.out).mono ?_); rintro e w3 ⟨rfl, hb⟩; have B3 := Lib.hid (B2.out.trans (hb.mono B2.out.size)); clear hb B2 G2))
  go_ret
  exact ⟨rfl, B3.out⟩
theorem ints_any (a b : ByteArray) (n : Int) (h1 : -9223372036854775808 <= n) (h2 : n <= 9223372036854775807) (w : World) (hg : Gl w) : Calls Tryz.prog 3 #[.string a, .string b, .int .i64 n] w fun e w' => e = .returned (.bool true) /\ Below w.heap.size w w' := by
  have L : ∀ (W : World) (g c : Nat), (∀ i (h : i < [a, b].length), W.cell? ⟨g, i, none⟩ = some (.string [a, b][i])) -> Calls Tryz.prog 11 #[.slice (some ⟨g, 0, none⟩) 2 c] W fun e w' => e = .returned (.bool (longL [a, b])) /\ w' = W := fun W g c h => long_any g 2 c [a, b] rfl (by omega) W h
  by_cases hl : longL [a, b] = true
  · rw [hl] at L
    exact ints_long a b n awake_any L w hg
  · rw [Bool.not_eq_true] at hl
    rw [hl] at L
    have hs : a.size <= 300 /\ b.size <= 300 := by
      have := hl
      unfold longL at this
      simp only [List.any_cons, List.any_nil, Bool.or_false, Bool.or_eq_false_iff, decide_eq_false_iff_not] at this
      omega
    obtain ⟨sa, sb⟩ := hs
    obtain ⟨s3, E3, h3⟩ : ∃ s E, (if ckL a.data.toList = 0 then resI (-vz a) else errT (ckL a.data.toList)) = .tuple #[.string s, .int .i64 E] := by
      split
      · exact resI_shape _
      · exact ⟨_, _, rfl⟩
    obtain ⟨s4, E4, h4⟩ := resI2_shape a b (vz a + vz b)
    obtain ⟨s5, E5, h5⟩ := resI2_shape a b (vz a - vz b)
    obtain ⟨s6, E6, h6⟩ := resI2_shape a b (vz a * vz b)
    obtain ⟨s7, r7, E7, h7⟩ := resD_three a b (vz a / vz b) (vz a % vz b)
    obtain ⟨k, E2, hk⟩ : ∃ k E : Int, (if ckL a.data.toList ≠ 0 then .tuple #[.int .i64 0, .int .i64 (ckL a.data.toList)] else if -9223372036854775808 <= vz a /\ vz a <= 9223372036854775807 then .tuple #[.int .i64 (vz a), .int .i64 0] else .tuple #[.int .i64 0, .int .i64 4] : Value) = .tuple #[.int .i64 k, .int .i64 E] := by
      split
      · exact ⟨_, _, rfl⟩
      · split <;> exact ⟨_, _, rfl⟩
    obtain ⟨c, E8, h8⟩ : ∃ k E : Int, (if ckL2 a b = 0 then .tuple #[.int .i64 (icmp (vz a) (vz b)), .int .i64 0] else .tuple #[.int .i64 0, .int .i64 (ckL2 a b)] : Value) = .tuple #[.int .i64 k, .int .i64 E] := by
      split <;> exact ⟨_, _, rfl⟩
    obtain ⟨s9, E9, h9⟩ : ∃ s E, (if ckL a.data.toList ≠ 0 then errT (ckL a.data.toList) else if n < 0 ∨ 1000 < n then errT 3 else resI (vz a ^ n.toNat)) = .tuple #[.string s, .int .i64 E] := by
      split
      · exact ⟨_, _, rfl⟩
      · split
        · exact ⟨_, _, rfl⟩
        · exact resI_shape _
    obtain ⟨s10, E10, h10⟩ := resI2_shape a b ((Nat.gcd (vz a).natAbs (vz b).natAbs : Nat) : Int)
    exact ints_walk a b (tz n) s3 s4 s5 s6 s7 r7 s9 s10 n k c (ckL a.data.toList) E2 E3 E4 E5 E6 E7 E8 E9 E10
      awake_any L
      (fun w _ => check_any a w) (fun w => (refCheck_any a (by omega) w).mono fun e w' ⟨h, hw⟩ => ⟨h, by rw [hw]; exact Below.refl _ _⟩)
      (fun w g => by have := fromInt_any n h1 h2 w g; rwa [itoa_tz] at this) (fun w => refFromInt_any n h1 h2 w)
      (fun w g => by have := toInt_any a w g; rwa [hk] at this) (fun w => by have := refToInt_any a sa w; rwa [hk] at this)
      (fun w g => by have := negI_any a w g; rwa [h3] at this) (fun w => by have := refNeg_any a sa w; rwa [h3] at this)
      (fun w g => by have := addI_any a b w g; rwa [h4] at this) (fun w => by have := refAdd_any a b sa sb w; rwa [h4] at this)
      (fun w g => by have := subI_any a b w g; rwa [h5] at this) (fun w => by have := refSub_any a b sa sb w; rwa [h5] at this)
      (fun w g => by have := mulI_any a b w g; rwa [h6] at this) (fun w => by have := refMul_any a b sa sb w; rwa [h6] at this)
      (fun w g => by have := divMod_same a b w g; rwa [h7] at this) (fun w => by have := refDivMod_any a b sa sb w; rwa [h7] at this)
      (fun w g => by have := compareI_any a b w g; rwa [h8] at this) (fun w => by have := refCompare_any a b sa sb w; rwa [ocmp_icmp, h8] at this)
      (fun w g => by have := powI_any a n w g; rwa [h9] at this) (fun w => by have := refPow_any a n sa w; rwa [h9] at this)
      (fun w g => by have := gcdI_any a b w g; rwa [h10] at this) (fun w => by have := refGcd_any a b sa sb w; rwa [h10] at this)
      w hg
end
end Go.Proofs.YtpbegoflpfdajaaGreatDoor
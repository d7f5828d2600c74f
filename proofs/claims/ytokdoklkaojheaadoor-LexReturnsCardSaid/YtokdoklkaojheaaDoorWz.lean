import Derived.Test.YtokdoklkaojheaaDoorWy
namespace Go.Proofs.YtokdoklkaojheaaDoor
open Go.RowKit

def posR (s : ByteArray) (a : Int) : Int × Int × Int := if posErr s.size a = 0 then (posLine s a.toNat, posCol s a.toNat, 0) else (0, 0, posErr s.size a)
def offR (s : ByteArray) (line col : Int) : Int × Int := if s.size > 65536 then (0, 23) else offOf s.data.toList line col

theorem pos25 (s : ByteArray) (a : Int) (w : World) (hs : s.size ≤ Go.maxLen) :
    Calls Tryd.prog 25 #[.string s, .int .i64 a] w fun r w' => r = .returned (.tuple #[.int .i64 (posR s a).1, .int .i64 (posR s a).2.1, .int .i64 (posR s a).2.2]) ∧ Below w.heap.size w w' := by
  unfold posR
  by_cases h : posErr s.size a = 0
  · rw [if_pos h]
    have h0 : 0 ≤ a := by rcases posErr_cases s.size a with h1 | h1 | h1 | h1 <;> omega
    obtain ⟨n, rfl⟩ := Int.eq_ofNat_of_zero_le h0
    exact lexPosition_ok s n w hs h
  · rw [if_neg h]; exact lexPosition_bad s a w hs h
theorem pos24 (s : ByteArray) (a : Int) (w : World) (hs : s.size ≤ Go.maxLen) :
    Calls Tryd.prog 24 #[.string s, .int .i64 a] w fun r w' => r = .returned (.tuple #[.int .i64 (posR s a).1, .int .i64 (posR s a).2.1, .int .i64 (posR s a).2.2]) ∧ Below w.heap.size w w' := by
  unfold posR
  by_cases h : posErr s.size a = 0
  · rw [if_pos h]
    have h0 : 0 ≤ a := by rcases posErr_cases s.size a with h1 | h1 | h1 | h1 <;> omega
    obtain ⟨n, rfl⟩ := Int.eq_ofNat_of_zero_le h0
    exact refPosition_ok s n w hs h
  · rw [if_neg h]; exact refPosition_bad s a w hs h
theorem off26 (s : ByteArray) (line col : Int) (w : World) (hs : s.size ≤ Go.maxLen) (hc : col ≤ 9223372036854775807) :
    Calls Tryd.prog 26 #[.string s, .int .i64 line, .int .i64 col] w fun r w' => r = .returned (.tuple #[.int .i64 (offR s line col).1, .int .i64 (offR s line col).2]) ∧ Below w.heap.size w w' := by
  unfold offR
  by_cases h : s.size > 65536
  · rw [if_pos h]; exact refOffset_long s line col w hs (by omega)
  · rw [if_neg h]; exact refOffset_any s line col w (by omega) hc
theorem off27 (s : ByteArray) (line col : Int) (w : World) (hs : s.size ≤ Go.maxLen) (hs2 : s.size ≤ 65537) (hc : col ≤ 9223372036854775807) :
    Calls Tryd.prog 27 #[.string s, .int .i64 line, .int .i64 col] w fun r w' => r = .returned (.tuple #[.int .i64 (offR s line col).1, .int .i64 (offR s line col).2]) ∧ Below w.heap.size w w' := by
  by_cases h : offErr s line = 0
  · obtain ⟨h1, h2, h3⟩ := offErr_ok s line h
    unfold offR
    rw [if_neg (by omega)]
    obtain ⟨q, rfl⟩ : ∃ q : Nat, line = (q : Int) + 1 := ⟨(line - 1).toNat, by omega⟩
    exact lexOffset_ok s q col w h hc
  · have e : offR s line col = (0, offErr s line) := by
      unfold offR
      have hd : offErr s line = firstErr [ckText (s.size : Int), ckRange line 1 ((Lib.countByte s.data.toList 10 : Nat) + 1)] := rfl
      have hl : (starts s.data.toList).length = Lib.countByte s.data.toList 10 + 1 := by rw [starts_length]; rfl
      by_cases h1 : s.size > 65536
      · rw [if_pos h1, hd]
        unfold ckText
        rw [if_pos (by omega)]; rfl
      · rw [if_neg h1]
        have ht : ckText (s.size : Int) = 0 := by unfold ckText; rw [if_neg (by omega)]
        have hd2 : offErr s line = ckRange line 1 ((Lib.countByte s.data.toList 10 : Nat) + 1) := by
          rw [hd, ht, firstErr, if_pos rfl, firstErr]
          split
          · rename_i h2; rw [h2]; rfl
          · rfl
        rw [hd2] at h ⊢
        unfold ckRange at h ⊢
        by_cases h3 : line < 1 ∨ ((Lib.countByte s.data.toList 10 : Nat) : Int) + 1 < line
        · rw [if_pos h3]
          unfold offOf
          rw [if_pos (by rw [hl]; push_cast; exact h3)]
        · rw [if_neg h3] at h; exact absurd rfl h
    rw [e]
    exact lexOffset_bad s line col w hs (by omega) h

theorem posErr_of (n : Nat) (a : Int) (h0 : 0 ≤ a) (h1 : a ≤ n) (h2 : (n : Int) ≤ 65536) : posErr n a = 0 := by
  rcases posErr_cases n a with h | h | h | h <;> omega
theorem off_back (s : ByteArray) (a : Int) (h : (posR s a).2.2 = 0) : offR s (posR s a).1 (posR s a).2.1 = (a, 0) ∧ (posR s a).2.1 ≤ 9223372036854775807 := by
  unfold posR at h ⊢
  by_cases he : posErr s.size a = 0
  · rw [if_pos he]
    have hc : (s.size : Int) ≤ 65536 ∧ 0 ≤ a ∧ a ≤ s.size := by rcases posErr_cases s.size a with h | h | h | h <;> omega
    obtain ⟨n, rfl⟩ := Int.eq_ofNat_of_zero_le hc.2.1
    have hn : n ≤ s.data.toList.length := by have := hc.2.2; simp; omega
    have hp := off_pos s.data.toList n hn
    simp only [Int.toNat_natCast]
    refine ⟨?_, ?_⟩
    · unfold offR
      rw [if_neg (by omega)]
      exact hp
    · show ((posOf (List.take n s.data.toList)).2 : Int) ≤ _
      unfold offOf at hp
      split at hp
      · cases hp
      split at hp
      · cases hp
      · have := congrArg Prod.fst hp
        simp only at this
        omega
  · rw [if_neg he] at h; exact absurd h he
theorem pos_back (s : ByteArray) (line col : Int) (h : (offR s line col).2 = 0) : posR s (offR s line col).1 = (line, col, 0) := by
  unfold offR at h ⊢
  by_cases hs : s.size > 65536
  · rw [if_pos hs] at h; cases h
  · rw [if_neg hs] at h ⊢
    obtain ⟨⟨mm, ee⟩, hm⟩ : ∃ r, offOf s.data.toList line col = r := ⟨_, rfl⟩
    rw [hm] at h ⊢
    simp only at h ⊢
    subst h
    obtain ⟨h0, h1, h2, h3⟩ := pos_off _ _ _ _ hm
    have hlen : s.data.toList.length = s.size := by simp
    unfold posR
    rw [if_pos (posErr_of s.size mm h0 (by omega) (by omega))]
    unfold posLine posCol
    rw [h2, h3]

set_option maxHeartbeats 4000000 in
set_option maxRecDepth 100000 in
theorem law_places (s : ByteArray) (a l c m : Int) (w : World) (hs : s.size ≤ Go.maxLen) (hc : c ≤ 9223372036854775807) (ht : Tab w) (hm : w.cell? ⟨2, 0, none⟩ = some (.int .i64 m)) :
    Calls Tryd.prog 5 #[.string s, .int .i64 a, .agg #[.int .i64 l, .int .i64 c]] w fun e w' => e = .returned (.bool true) ∧ Below w.heap.size w w' := by
  have Ca : ∀ w', Below w.heap.size w w' → Calls Tryd.prog 8 #[] w' fun e w'' => e = .returned (.bool true) ∧ Below w'.heap.size w' w'' := fun w' hb => awake_any m w' (ht.below hb) (cell_later hb hm)
  have CA := Lib.hid Ca
  clear Ca ht hm
  have hsz : (w.alloc (.cells #[.int .i64 l, .int .i64 c] 42)).heap.size = w.heap.size + 1 := by simp
  by_cases hbig : s.size > 4000 ∧ s.size ≠ 65537
  · have d1 : decide ((4000 : Int) < (s.size : Int)) = true := decide_eq_true (by omega)
    have d2 : ((s.size : Int) != 65537) = true := by simp; omega
    have hb := (Below.refl w.heap.size w).alloc (Nat.le_refl _) (.cells #[.int .i64 l, .int .i64 c] 42)
    go_enter Tryd.func5, Tryd.ntmps5
    go_wp2_with fail
    refine (CA.out _ hb).mono ?_; rintro e w2 ⟨rfl, hb2⟩
    go_wp2
    go_ret
    exact ⟨rfl, hb.trans (hb2.mono hb.size)⟩
  · have hs2 : s.size ≤ 65537 := by omega
    have hdd : decide ((4000 : Int) < (s.size : Int)) = false ∨ (decide ((4000 : Int) < (s.size : Int)) = true ∧ ((s.size : Int) != 65537) = false) := by
      by_cases h : 4000 < s.size
      · exact .inr ⟨decide_eq_true (by omega), by have : s.size = 65537 := by omega
                                                  rw [this]; rfl⟩
      · exact .inl (decide_eq_false (by omega))
    have c24 := fun w => pos24 s a w hs
    have c25 := fun w => pos25 s a w hs
    have c26 := fun w => off26 s l c w hs hc
    have c27 := fun w => off27 s l c w hs hs2 hc
    have hP := off_back s a
    have hO := pos_back s l c
    obtain ⟨⟨p1, p2, p3⟩, hp⟩ : ∃ r, posR s a = r := ⟨_, rfl⟩
    obtain ⟨⟨o1, o2⟩, ho⟩ : ∃ r, offR s l c = r := ⟨_, rfl⟩
    rw [hp] at c24 c25 hP
    rw [ho] at c26 c27 hO
    simp only at c24 c25 c26 c27 hP hO
    have c27b : p3 = 0 → ∀ w, Calls Tryd.prog 27 #[.string s, .int .i64 p1, .int .i64 p2] w fun r w' => r = .returned (.tuple #[.int .i64 a, .int .i64 0]) ∧ Below w.heap.size w w' := by
      intro h w
      have := off27 s p1 p2 w hs hs2 (hP h).2
      rw [(hP h).1] at this
      exact this
    have c25b : o2 = 0 → ∀ w, Calls Tryd.prog 25 #[.string s, .int .i64 o1] w fun r w' => r = .returned (.tuple #[.int .i64 l, .int .i64 c, .int .i64 0]) ∧ Below w.heap.size w w' := by
      intro h w
      have := pos25 s o1 w hs
      rw [hO h] at this
      exact this
    have C24 := Lib.hid c24
    have C25 := Lib.hid c25
    have C26 := Lib.hid c26
    have C27 := Lib.hid c27
    clear c24 c25 c26 c27 hP hO hp ho hsz hbig
    have hb := (Below.refl w.heap.size w).alloc (Nat.le_refl _) (.cells #[.int .i64 l, .int .i64 c] 42)
    have k0 : (w.alloc (.cells #[.int .i64 l, .int .i64 c] 42)).cell? ⟨w.heap.size, 0, none⟩ = some (.int .i64 l) := by simp
    have k1 : (w.alloc (.cells #[.int .i64 l, .int .i64 c] 42)).cell? ⟨w.heap.size, 1, none⟩ = some (.int .i64 c) := by simp
    have HB0 := Lib.hid hb; clear hb
    by_cases hp3 : p3 = 0
    · subst hp3
      have C27b := Lib.hid (c27b rfl)
      clear c27b
      by_cases ho2 : o2 = 0
      · subst ho2
        have C25b := Lib.hid (c25b rfl)
        clear c25b
        rcases hdd with d1 | ⟨d1, d2⟩
        all_goals go_enter Tryd.func5, Tryd.ntmps5
        all_goals (
          go_wp2_with fail
          refine (C24.out _).mono ?_; rintro e w1 ⟨rfl, hb1⟩
          have hB1 := HB0.out.trans (hb1.mono HB0.out.size)
          have k0 := cell_later hb1 k0
          have k1 := cell_later hb1 k1
          have HB1 := Lib.hid hB1; clear hB1 hb1
          go_wp2_with fail
          refine (C25.out _).mono ?_; rintro e w2 ⟨rfl, hb2⟩
          have hB2 := HB1.out.trans (hb2.mono HB1.out.size)
          have k0 := cell_later hb2 k0
          have k1 := cell_later hb2 k1
          have HB2 := Lib.hid hB2; clear hB2 hb2
          go_wp2_with fail
          refine (C26.out _).mono ?_; rintro e w3 ⟨rfl, hb3⟩
          have hB3 := HB2.out.trans (hb3.mono HB2.out.size)
          have k0 := cell_later hb3 k0
          have k1 := cell_later hb3 k1
          have HB3 := Lib.hid hB3; clear hB3 hb3
          go_wp2_with fail
          refine (C27.out _).mono ?_; rintro e w4 ⟨rfl, hb4⟩
          have hB4 := HB3.out.trans (hb4.mono HB3.out.size)
          have k0 := cell_later hb4 k0
          have k1 := cell_later hb4 k1
          have HB4 := Lib.hid hB4; clear hB4 hb4
          go_wp2_with fail
          refine (C27b.out _).mono ?_; rintro e w5 ⟨rfl, hb5⟩
          have hB5 := HB4.out.trans (hb5.mono HB4.out.size)
          have k0 := cell_later hb5 k0
          have k1 := cell_later hb5 k1
          have HB5 := Lib.hid hB5; clear hB5 hb5
          go_wp2_with fail
          refine (C25b.out _).mono ?_; rintro e w6 ⟨rfl, hb6⟩
          have hB6 := HB5.out.trans (hb6.mono HB5.out.size)
          have k0 := cell_later hb6 k0
          have k1 := cell_later hb6 k1
          have HB6 := Lib.hid hB6; clear hB6 hb6
          go_wp2_with fail
          refine (CA.out _ HB6.out).mono ?_; rintro e w9 ⟨rfl, hb9⟩
          have hB9 := HB6.out.trans (hb9.mono HB6.out.size)
          go_wp2
          go_ret
          exact ⟨rfl, hB9⟩)
      · have e2 : (o2 == 0) = false := by simpa using ho2
        clear c25b ho2
        rcases hdd with d1 | ⟨d1, d2⟩
        all_goals go_enter Tryd.func5, Tryd.ntmps5
        all_goals (
          go_wp2_with fail
          refine (C24.out _).mono ?_; rintro e w1 ⟨rfl, hb1⟩
          have hB1 := HB0.out.trans (hb1.mono HB0.out.size)
          have k0 := cell_later hb1 k0
          have k1 := cell_later hb1 k1
          have HB1 := Lib.hid hB1; clear hB1 hb1
          go_wp2_with fail
          refine (C25.out _).mono ?_; rintro e w2 ⟨rfl, hb2⟩
          have hB2 := HB1.out.trans (hb2.mono HB1.out.size)
          have k0 := cell_later hb2 k0
          have k1 := cell_later hb2 k1
          have HB2 := Lib.hid hB2; clear hB2 hb2
          go_wp2_with fail
          refine (C26.out _).mono ?_; rintro e w3 ⟨rfl, hb3⟩
          have hB3 := HB2.out.trans (hb3.mono HB2.out.size)
          have k0 := cell_later hb3 k0
          have k1 := cell_later hb3 k1
          have HB3 := Lib.hid hB3; clear hB3 hb3
          go_wp2_with fail
          refine (C27.out _).mono ?_; rintro e w4 ⟨rfl, hb4⟩
          have hB4 := HB3.out.trans (hb4.mono HB3.out.size)
          have k0 := cell_later hb4 k0
          have k1 := cell_later hb4 k1
          have HB4 := Lib.hid hB4; clear hB4 hb4
          go_wp2_with fail
          refine (C27b.out _).mono ?_; rintro e w5 ⟨rfl, hb5⟩
          have hB5 := HB4.out.trans (hb5.mono HB4.out.size)
          have k0 := cell_later hb5 k0
          have k1 := cell_later hb5 k1
          have HB5 := Lib.hid hB5; clear hB5 hb5
          go_wp2_with fail
          refine (CA.out _ HB5.out).mono ?_; rintro e w9 ⟨rfl, hb9⟩
          have hB9 := HB5.out.trans (hb9.mono HB5.out.size)
          go_wp2
          go_ret
          exact ⟨rfl, hB9⟩)
    · have e1 : (p3 == 0) = false := by simpa using hp3
      clear c27b hp3
      by_cases ho2 : o2 = 0
      · subst ho2
        have C25b := Lib.hid (c25b rfl)
        clear c25b
        rcases hdd with d1 | ⟨d1, d2⟩
        all_goals go_enter Tryd.func5, Tryd.ntmps5
        all_goals (
          go_wp2_with fail
          refine (C24.out _).mono ?_; rintro e w1 ⟨rfl, hb1⟩
          have hB1 := HB0.out.trans (hb1.mono HB0.out.size)
          have k0 := cell_later hb1 k0
          have k1 := cell_later hb1 k1
          have HB1 := Lib.hid hB1; clear hB1 hb1
          go_wp2_with fail
          refine (C25.out _).mono ?_; rintro e w2 ⟨rfl, hb2⟩
          have hB2 := HB1.out.trans (hb2.mono HB1.out.size)
          have k0 := cell_later hb2 k0
          have k1 := cell_later hb2 k1
          have HB2 := Lib.hid hB2; clear hB2 hb2
          go_wp2_with fail
          refine (C26.out _).mono ?_; rintro e w3 ⟨rfl, hb3⟩
          have hB3 := HB2.out.trans (hb3.mono HB2.out.size)
          have k0 := cell_later hb3 k0
          have k1 := cell_later hb3 k1
          have HB3 := Lib.hid hB3; clear hB3 hb3
          go_wp2_with fail
          refine (C27.out _).mono ?_; rintro e w4 ⟨rfl, hb4⟩
          have hB4 := HB3.out.trans (hb4.mono HB3.out.size)
          have k0 := cell_later hb4 k0
          have k1 := cell_later hb4 k1
          have HB4 := Lib.hid hB4; clear hB4 hb4
          go_wp2_with fail
          refine (C25b.out _).mono ?_; rintro e w5 ⟨rfl, hb5⟩
          have hB5 := HB4.out.trans (hb5.mono HB4.out.size)
          have k0 := cell_later hb5 k0
          have k1 := cell_later hb5 k1
          have HB5 := Lib.hid hB5; clear hB5 hb5
          go_wp2_with fail
          refine (CA.out _ HB5.out).mono ?_; rintro e w9 ⟨rfl, hb9⟩
          have hB9 := HB5.out.trans (hb9.mono HB5.out.size)
          go_wp2
          go_ret
          exact ⟨rfl, hB9⟩)
      · have e2 : (o2 == 0) = false := by simpa using ho2
        clear c25b ho2
        rcases hdd with d1 | ⟨d1, d2⟩
        all_goals go_enter Tryd.func5, Tryd.ntmps5
        all_goals (
          go_wp2_with fail
          refine (C24.out _).mono ?_; rintro e w1 ⟨rfl, hb1⟩
          have hB1 := HB0.out.trans (hb1.mono HB0.out.size)
          have k0 := cell_later hb1 k0
          have k1 := cell_later hb1 k1
          have HB1 := Lib.hid hB1; clear hB1 hb1
          go_wp2_with fail
          refine (C25.out _).mono ?_; rintro e w2 ⟨rfl, hb2⟩
          have hB2 := HB1.out.trans (hb2.mono HB1.out.size)
          have k0 := cell_later hb2 k0
          have k1 := cell_later hb2 k1
          have HB2 := Lib.hid hB2; clear hB2 hb2
          go_wp2_with fail
          refine (C26.out _).mono ?_; rintro e w3 ⟨rfl, hb3⟩
          have hB3 := HB2.out.trans (hb3.mono HB2.out.size)
          have k0 := cell_later hb3 k0
          have k1 := cell_later hb3 k1
          have HB3 := Lib.hid hB3; clear hB3 hb3
          go_wp2_with fail
          refine (C27.out _).mono ?_; rintro e w4 ⟨rfl, hb4⟩
          have hB4 := HB3.out.trans (hb4.mono HB3.out.size)
          have k0 := cell_later hb4 k0
          have k1 := cell_later hb4 k1
          have HB4 := Lib.hid hB4; clear hB4 hb4
          go_wp2_with fail
          refine (CA.out _ HB4.out).mono ?_; rintro e w9 ⟨rfl, hb9⟩
          have hB9 := HB4.out.trans (hb9.mono HB4.out.size)
          go_wp2
          go_ret
          exact ⟨rfl, hB9⟩)
end Go.Proofs.YtokdoklkaojheaaDoor

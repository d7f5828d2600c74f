import Derived.Test.YtokdoklkaojheaaDoorZf
import Derived.Test.YtokdoklkaojheaaDoorZg
namespace Go.Proofs.YtokdoklkaojheaaDoor
open Go.RowKit

theorem tkV_form (s : ByteArray) (a : Int) (r : Nat × Nat × Int) : ∃ (k : Int) (t : ByteArray) (o e : Int), tkV s a r = .tuple #[.agg #[.int .i64 k, .string t, .int .i64 o], .int .i64 e] := by
  unfold tkV
  split
  · exact ⟨_, _, _, _, rfl⟩
  · exact ⟨_, _, _, _, rfl⟩

theorem dig_head (s : ByteArray) (h : 0 < s.size) : isDigZ ((s[0]'h).toNat : Int) = decide (0 < tw isDigB s.data.toList) := tw_byte isDigB s 0 h (Nat.zero_le _)

set_option maxHeartbeats 4000000 in
set_option maxRecDepth 100000 in
theorem refRead_any (s : ByteArray) (a : Int) (w : World) (hs : s.size ≤ 65536) (hp0 : 0 < s.size) :
    Calls Tryd.prog 34 #[.string s, .int .i64 a] w fun e w' => e = .returned (tkV s a (readL (allRs s.data.toList))) ∧ Below w.heap.size w w' := by
  have cw := fun w => refWord_any s w hs
  have hn1 := named_same s.data.toList
  have hn2 := number_same s.data.toList
  have hn3 := sign_same s.data.toList
  have hB0 : Below w.heap.size w (w.alloc tokO) := (Below.refl _ _).alloc (Nat.le_refl _) _
  have HB0 := Lib.hid hB0; clear hB0
  have ht0 := NewTok.made w
  have Ht0 := Lib.hid ht0; clear ht0
  obtain ⟨n, hn⟩ : ∃ n, wlen s.data.toList = n := ⟨_, rfl⟩
  rw [hn] at cw hn1 hn2 hn3
  have hnz : n ≤ s.size := by have := wlen_size s; omega
  have Cw := Lib.hid cw; clear cw hn
  by_cases h0 : 0 < n
  · have d0 : decide ((0 : Int) < n) = true := decide_eq_true (by omega)
    have d0' : decide (0 < n) = true := decide_eq_true h0
    rw [hn1 h0]
    have c := fun w => refNamed_any s a w hs
    obtain ⟨k, t, o, e, hf⟩ := tkV_form s a (namedL s.data.toList)
    rw [hf] at c ⊢
    have C := Lib.hid c; clear c hf hn1 hn2 hn3 h0
    go_enter Tryd.func34, Tryd.ntmps34
    go_wp2_with fail
    refine (Cw.out _).mono ?_; rintro e w1 ⟨rfl, rfl⟩
    go_wp2_with fail
    refine (C.out _).mono ?_; rintro e w1 ⟨rfl, hb⟩
    have T1 := Lib.hid (Ht0.out.keep hb)
    have H1 := Lib.hid (HB0.out.trans (hb.mono HB0.out.size)); clear hb
    have c0 := T1.out.c0; have c1 := T1.out.c1; have c2 := T1.out.c2; have f0 := T1.out.fz; have hlp := T1.out.lt
    go_wp2
    refine bodyPost_ret (v := .tuple #[.agg #[.int .i64 k, .string t, .int .i64 o], .int .i64 _]) ?_ rfl ⟨rfl, ?_⟩
    · simp [results, Tryd.results34, go_sem, c0, c1, c2]
    · exact below_tok H1.out (Nat.le_refl _) _ _ _
  · have d0 : decide ((0 : Int) < n) = false := decide_eq_false (by omega)
    have d0' : decide (0 < n) = false := decide_eq_false h0
    have hn0 : n = 0 := by omega
    have cd := fun w => refDigit_any ((s[0]'hp0).toNat : Int) w
    have hdh := dig_head s hp0
    by_cases hd : 0 < tw isDigB s.data.toList
    · rw [decide_eq_true hd] at hdh
      rw [hdh] at cd
      rw [hn2 hn0 hd]
      have c := fun w => refNumber_any s a w hs
      obtain ⟨k, t, o, e, hf⟩ := tkV_form s a (numberL s.data.toList)
      rw [hf] at c ⊢
      have C := Lib.hid c; have Cd := Lib.hid cd; clear c cd hf hn1 hn2 hn3 h0 hd hdh hn0
      go_enter Tryd.func34, Tryd.ntmps34
      go_wp2_with fail
      refine (Cw.out _).mono ?_; rintro e w1 ⟨rfl, rfl⟩
      go_wp2_with fail
      refine (Cd.out _).mono ?_; rintro e w1 ⟨rfl, rfl⟩
      go_wp2_with fail
      refine (C.out _).mono ?_; rintro e w1 ⟨rfl, hb⟩
      have T1 := Lib.hid (Ht0.out.keep hb)
      have H1 := Lib.hid (HB0.out.trans (hb.mono HB0.out.size)); clear hb
      have c0 := T1.out.c0; have c1 := T1.out.c1; have c2 := T1.out.c2; have f0 := T1.out.fz; have hlp := T1.out.lt
      go_wp2
      refine bodyPost_ret (v := .tuple #[.agg #[.int .i64 k, .string t, .int .i64 o], .int .i64 _]) ?_ rfl ⟨rfl, ?_⟩
      · simp [results, Tryd.results34, go_sem, c0, c1, c2]
      · exact below_tok H1.out (Nat.le_refl _) _ _ _
    · rw [decide_eq_false hd] at hdh
      rw [hdh] at cd
      rw [hn3 hn0 (by omega)]
      have c := fun w => refSign_any s w hs
      have hsl : signLen s.data.toList ≤ s.size := by
        have := signR_le s.data.toList
        unfold signR at this
        rw [list_size] at this
        by_cases h : signLen s.data.toList = 0
        · omega
        · rw [if_neg h] at this; exact this
      unfold signR
      obtain ⟨m, hm⟩ : ∃ m, signLen s.data.toList = m := ⟨_, rfl⟩
      rw [hm] at c hsl ⊢
      have C := Lib.hid c; have Cd := Lib.hid cd; clear c cd hn1 hn2 hn3 h0 hd hdh hn0 hm
      by_cases hm0 : m = 0
      · subst hm0
        rw [if_pos rfl, tkV_bad _ _ _ _ _ (by decide)]
        go_enter Tryd.func34, Tryd.ntmps34
        go_wp2_with fail
        refine (Cw.out _).mono ?_; rintro e w1 ⟨rfl, rfl⟩
        go_wp2_with fail
        refine (Cd.out _).mono ?_; rintro e w1 ⟨rfl, rfl⟩
        go_wp2_with fail
        refine (C.out _).mono ?_; rintro e w1 ⟨rfl, hb⟩
        have T1 := Lib.hid (Ht0.out.keep hb)
        have H1 := Lib.hid (HB0.out.trans (hb.mono HB0.out.size)); clear hb
        have c0 := T1.out.c0; have c1 := T1.out.c1; have c2 := T1.out.c2; have f0 := T1.out.fz; have hlp := T1.out.lt
        go_wp2
        refine bodyPost_ret (v := .tuple #[.agg #[.int .i64 0, .string ⟨#[]⟩, .int .i64 0], .int .i64 22]) ?_ rfl ⟨rfl, ?_⟩
        · simp [results, Tryd.results34, go_sem, c0, c1, c2]
        · exact below_tok H1.out (Nat.le_refl _) _ _ _
      · have dm : ((m : Int) == 0) = false := by simp; omega
        rw [if_neg hm0, tkV_ok]
        clear hm0
        go_enter Tryd.func34, Tryd.ntmps34
        go_wp2_with fail
        refine (Cw.out _).mono ?_; rintro e w1 ⟨rfl, rfl⟩
        go_wp2_with fail
        refine (Cd.out _).mono ?_; rintro e w1 ⟨rfl, rfl⟩
        go_wp2_with fail
        refine (C.out _).mono ?_; rintro e w1 ⟨rfl, hb⟩
        have T1 := Lib.hid (Ht0.out.keep hb)
        have H1 := Lib.hid (HB0.out.trans (hb.mono HB0.out.size)); clear hb
        have c0 := T1.out.c0; have c1 := T1.out.c1; have c2 := T1.out.c2; have f0 := T1.out.fz; have hlp := T1.out.lt
        go_wp2
        refine bodyPost_ret (v := .tuple #[.agg #[.int .i64 ((4 : Nat) : Int), .string (s.extract 0 m), .int .i64 a], .int .i64 0]) ?_ rfl ⟨rfl, ?_⟩
        · simp [results, Tryd.results34, go_sem, c0, c1, c2]
        · exact below_tok H1.out (Nat.le_refl _) _ _ _
end Go.Proofs.YtokdoklkaojheaaDoor

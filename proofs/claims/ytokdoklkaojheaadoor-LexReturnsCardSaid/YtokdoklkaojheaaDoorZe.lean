import Derived.Test.YtokdoklkaojheaaDoorZd
namespace Go.Proofs.YtokdoklkaojheaaDoor
open Go.RowKit

/-- a token of the specification, with its offset, and the error -/
def tkV (s : ByteArray) (a : Int) (r : Nat × Nat × Int) : Value :=
  if r.2.2 = 0 then .tuple #[.agg #[.int .i64 r.1, .string (s.extract 0 r.2.1), .int .i64 a], .int .i64 0] else .tuple #[.agg #[.int .i64 0, .string ⟨#[]⟩, .int .i64 0], .int .i64 r.2.2]
theorem tkV_ok (s : ByteArray) (a : Int) (k n : Nat) : tkV s a (k, n, 0) = .tuple #[.agg #[.int .i64 k, .string (s.extract 0 n), .int .i64 a], .int .i64 0] := rfl
theorem tkV_bad (s : ByteArray) (a e : Int) (k n : Nat) (h : e ≠ 0) : tkV s a (k, n, e) = .tuple #[.agg #[.int .i64 0, .string ⟨#[]⟩, .int .i64 0], .int .i64 e] := by unfold tkV; rw [if_neg h]

abbrev tokO : Obj := .cells #[.int .i64 0, .string ⟨#[]⟩, .int .i64 0] 61
/-- a token's box, not yet written -/
structure NewTok (w : World) (b : Nat) : Prop where
  c0 : w.cell? ⟨b, 0, none⟩ = some (.int .i64 0)
  c1 : w.cell? ⟨b, 1, none⟩ = some (.string ⟨#[]⟩)
  c2 : w.cell? ⟨b, 2, none⟩ = some (.int .i64 0)
  fz : ∀ o, w.frozen? ⟨b, o, none⟩ = false
  lt : b < w.heap.size
theorem NewTok.made (w : World) : NewTok (w.alloc tokO) w.heap.size := ⟨by simp, by simp, by simp, by intro o; simp, by simp⟩
theorem NewTok.keep {w w' : World} {b : Nat} (h : NewTok w b) (hb : Below w.heap.size w w') : NewTok w' b :=
  ⟨cell_later hb h.c0, cell_later hb h.c1, cell_later hb h.c2, fun o => (hb.frozen (p := ⟨b, o, none⟩) h.lt).trans (h.fz o), Nat.lt_of_lt_of_le h.lt hb.size⟩
theorem below_tok {B b : Nat} {a w1 : World} (h : Below B a w1) (hB : B ≤ b) (v0 v1 v2 : Value) : Below B a (((w1.setCell ⟨b, 0, none⟩ v0).setCell ⟨b, 1, none⟩ v1).setCell ⟨b, 2, none⟩ v2) :=
  ((h.setCell (p := ⟨b, 0, none⟩) hB _).setCell (p := ⟨b, 1, none⟩) hB _).setCell (p := ⟨b, 2, none⟩) hB _

theorem extract_min (s : ByteArray) (n : Nat) (h : n ≤ s.size) : (s.extract 0 n).size = n := by simp; omega

set_option maxHeartbeats 8000000 in
set_option maxRecDepth 100000 in
theorem refNamed_any (s : ByteArray) (a : Int) (w : World) (hs : s.size ≤ 65536) :
    Calls Tryd.prog 67 #[.string s, .int .i64 a] w fun e w' => e = .returned (tkV s a (namedL s.data.toList)) ∧ Below w.heap.size w w' := by
  have hz := wlen_size s
  have hl := list_size s
  have cw := fun w => refWord_any s w hs
  have hn : namedL s.data.toList = namedL s.data.toList := rfl
  unfold namedL namedQ namedW at hn ⊢
  clear hn
  have e1 : ∀ n, s.data.toList.take n = (s.extract 0 n).data.toList := by intro n; rw [Lib.extract_data]; simp
  have e2 : ∀ n, s.data.toList.drop n = (s.extract n s.size).data.toList := by intro n; rw [Lib.extract_to_end]
  rw [hl]
  obtain ⟨n, hn⟩ : ∃ n, wlen s.data.toList = n := ⟨_, rfl⟩
  rw [hn] at cw hz ⊢
  rw [e1 n]
  have hsz := extract_min s n hz
  have hmin : min n s.size = n := by omega
  have cu := fun w => refUpper_any (s.extract 0 n) w (by omega)
  have ck := fun w => refKeyword_any (s.extract 0 n) w (by omega)
  have Cw := Lib.hid cw; have Cu := Lib.hid cu; have Ck := Lib.hid ck
  clear cw cu ck hn
  by_cases h24 : 24 < n
  · have d1 : decide ((24 : Int) < n) = true := decide_eq_true (by omega)
    have d1' : decide (24 < n) = true := decide_eq_true h24
    rw [if_pos h24, tkV_bad _ _ _ _ _ (by decide)]
    clear h24 e1 e2 hl
    go_enter Tryd.func67, Tryd.ntmps67
    go_wp2_with fail
    refine (Cw.out _).mono ?_; rintro e w1 ⟨rfl, rfl⟩
    go_wp2
    refine bodyPost_ret (v := .tuple #[.agg #[.int .i64 0, .string ⟨#[]⟩, .int .i64 0], .int .i64 6]) ?_ rfl ⟨rfl, ?_⟩
    · simp [results, Tryd.results67, go_sem]
    · exact (Below.refl _ _).alloc (Nat.le_refl _) _
  · have d1 : decide ((24 : Int) < n) = false := decide_eq_false (by omega)
    have d1' : decide (24 < n) = false := decide_eq_false h24
    rw [if_neg h24]
    clear h24
    have hB0 : Below w.heap.size w (w.alloc tokO) := (Below.refl _ _).alloc (Nat.le_refl _) _
    have HB0 := Lib.hid hB0; clear hB0
    have ht0 := NewTok.made w
    have Ht0 := Lib.hid ht0; clear ht0
    cases hu : upB (s.extract 0 n).data.toList with
    | false =>
      rw [hu] at Cu
      rw [Bool.false_and, if_neg (by simp)]
      clear hu e1 e2 hl
      cases hk : kwB (s.extract 0 n).data.toList with
      | true =>
        rw [hk] at Ck
        clear hk
        simp only [if_true, if_false, Bool.false_eq_true]
        rw [tkV_ok]
        go_enter Tryd.func67, Tryd.ntmps67
        go_wp2_with fail
        refine (Cw.out _).mono ?_; rintro e w1 ⟨rfl, rfl⟩
        go_wp2_with fail
        refine (Cu.out _).mono ?_; rintro e w1 ⟨rfl, hb⟩
        have T1 := Lib.hid (Ht0.out.keep hb)
        have H1 := Lib.hid (HB0.out.trans (hb.mono HB0.out.size)); clear hb
        go_wp2_with fail
        refine (Ck.out _).mono ?_; rintro e wk ⟨rfl, hb⟩
        have Tk := Lib.hid (T1.out.keep hb)
        have Hk := Lib.hid (H1.out.trans (hb.mono H1.out.size)); clear hb
        have c0 := Tk.out.c0; have c1 := Tk.out.c1; have c2 := Tk.out.c2; have f0 := Tk.out.fz; have hlp := Tk.out.lt
        go_wp2
        refine bodyPost_ret (v := .tuple #[.agg #[.int .i64 ((1 : Nat) : Int), .string (s.extract 0 n), .int .i64 a], .int .i64 0]) ?_ rfl ⟨rfl, ?_⟩
        · simp [results, Tryd.results67, go_sem, c0, c1, c2]
        · exact below_tok Hk.out (Nat.le_refl _) _ _ _
      | false =>
        rw [hk] at Ck
        clear hk
        simp only [if_true, if_false, Bool.false_eq_true]
        rw [tkV_ok]
        go_enter Tryd.func67, Tryd.ntmps67
        go_wp2_with fail
        refine (Cw.out _).mono ?_; rintro e w1 ⟨rfl, rfl⟩
        go_wp2_with fail
        refine (Cu.out _).mono ?_; rintro e w1 ⟨rfl, hb⟩
        have T1 := Lib.hid (Ht0.out.keep hb)
        have H1 := Lib.hid (HB0.out.trans (hb.mono HB0.out.size)); clear hb
        go_wp2_with fail
        refine (Ck.out _).mono ?_; rintro e wk ⟨rfl, hb⟩
        have Tk := Lib.hid (T1.out.keep hb)
        have Hk := Lib.hid (H1.out.trans (hb.mono H1.out.size)); clear hb
        have c0 := Tk.out.c0; have c1 := Tk.out.c1; have c2 := Tk.out.c2; have f0 := Tk.out.fz; have hlp := Tk.out.lt
        go_wp2
        refine bodyPost_ret (v := .tuple #[.agg #[.int .i64 ((0 : Nat) : Int), .string (s.extract 0 n), .int .i64 a], .int .i64 0]) ?_ rfl ⟨rfl, ?_⟩
        · simp [results, Tryd.results67, go_sem, c0, c1, c2]
        · exact below_tok Hk.out (Nat.le_refl _) _ _ _
    | true =>
      rw [hu] at Cu
      rw [Bool.true_and]
      clear hu
      by_cases hlt : n + 2 < s.size
      · have d2 : decide (((n : Int) + 2) < s.size) = true := decide_eq_true (by omega)
        have d2' : decide (n + 2 < s.size) = true := decide_eq_true hlt
        rw [d2', Bool.true_and]
        have hq0 : (s.data.toList.drop n).take 2 = (s.extract n (n + 2)).data.toList := by
          rw [Lib.extract_data]; simp
        rw [hq0]
        have hbq := beq_list (s.extract n (n + 2)) [58, 58]
        have hj1 : ((n : Int) + 2) ≤ (s.size : Int) := by omega
        have hj2 : (0 : Int) ≤ (n : Int) + 2 := by omega
        have hj3 : ((n : Int) + 2).toNat = n + 2 := by omega
        have hj4 : n + 2 ≤ s.size := by omega
        have hj5 : (n : Int) ≤ (n : Int) + 2 := by omega
        cases hq : decide ((s.extract n (n + 2)).data.toList = [58, 58]) with
        | false =>
          rw [hq] at hbq
          rw [if_neg (by simp)]
          clear hq hq0 e1 e2 hl hlt
          cases hk : kwB (s.extract 0 n).data.toList with
          | true =>
            rw [hk] at Ck
            clear hk
            simp only [if_true, if_false, Bool.false_eq_true]
            rw [tkV_ok]
            go_enter Tryd.func67, Tryd.ntmps67
            go_wp2_with fail
            refine (Cw.out _).mono ?_; rintro e w1 ⟨rfl, rfl⟩
            go_wp2_with fail
            refine (Cu.out _).mono ?_; rintro e w1 ⟨rfl, hb⟩
            have T1 := Lib.hid (Ht0.out.keep hb)
            have H1 := Lib.hid (HB0.out.trans (hb.mono HB0.out.size)); clear hb
            go_wp2_with fail
            refine (Ck.out _).mono ?_; rintro e wk ⟨rfl, hb⟩
            have Tk := Lib.hid (T1.out.keep hb)
            have Hk := Lib.hid (H1.out.trans (hb.mono H1.out.size)); clear hb
            have c0 := Tk.out.c0; have c1 := Tk.out.c1; have c2 := Tk.out.c2; have f0 := Tk.out.fz; have hlp := Tk.out.lt
            go_wp2
            refine bodyPost_ret (v := .tuple #[.agg #[.int .i64 ((1 : Nat) : Int), .string (s.extract 0 n), .int .i64 a], .int .i64 0]) ?_ rfl ⟨rfl, ?_⟩
            · simp [results, Tryd.results67, go_sem, c0, c1, c2]
            · exact below_tok Hk.out (Nat.le_refl _) _ _ _
          | false =>
            rw [hk] at Ck
            clear hk
            simp only [if_true, if_false, Bool.false_eq_true]
            rw [tkV_ok]
            go_enter Tryd.func67, Tryd.ntmps67
            go_wp2_with fail
            refine (Cw.out _).mono ?_; rintro e w1 ⟨rfl, rfl⟩
            go_wp2_with fail
            refine (Cu.out _).mono ?_; rintro e w1 ⟨rfl, hb⟩
            have T1 := Lib.hid (Ht0.out.keep hb)
            have H1 := Lib.hid (HB0.out.trans (hb.mono HB0.out.size)); clear hb
            go_wp2_with fail
            refine (Ck.out _).mono ?_; rintro e wk ⟨rfl, hb⟩
            have Tk := Lib.hid (T1.out.keep hb)
            have Hk := Lib.hid (H1.out.trans (hb.mono H1.out.size)); clear hb
            have c0 := Tk.out.c0; have c1 := Tk.out.c1; have c2 := Tk.out.c2; have f0 := Tk.out.fz; have hlp := Tk.out.lt
            go_wp2
            refine bodyPost_ret (v := .tuple #[.agg #[.int .i64 ((0 : Nat) : Int), .string (s.extract 0 n), .int .i64 a], .int .i64 0]) ?_ rfl ⟨rfl, ?_⟩
            · simp [results, Tryd.results67, go_sem, c0, c1, c2]
            · exact below_tok Hk.out (Nat.le_refl _) _ _ _
        | true =>
          rw [hq] at hbq
          rw [if_pos rfl]
          clear hq hq0 hlt
          have hlen2 : (s.extract (n + 2) s.size).size = s.size - (n + 2) := by simp
          have cm := fun w => refWord_any (s.extract (n + 2) s.size) w (by omega)
          have hm := wlen_size (s.extract (n + 2) s.size)
          rw [hlen2] at hm
          rw [e2 (n + 2)]
          obtain ⟨m, hmm⟩ : ∃ m, wlen (s.extract (n + 2) s.size).data.toList = m := ⟨_, rfl⟩
          rw [hmm] at cm hm ⊢
          have hbt : (s.extract (n + 2) s.size).data.toList.take m = (s.extract (n + 2) (n + 2 + m)).data.toList := by
            rw [Lib.extract_data, Lib.extract_data]
            simp [List.take_take] <;> omega
          rw [hbt]
          have hbz : (s.extract (n + 2) (n + 2 + m)).size ≤ 65536 := by simp; omega
          have cb := fun w => refKeyword_any (s.extract (n + 2) (n + 2 + m)) w hbz
          have Cm := Lib.hid cm; have Cb := Lib.hid cb
          have hk1 : ((n : Int) + 2 + m) ≤ (s.size : Int) := by omega
          have hk2 : (0 : Int) ≤ (n : Int) + 2 + m := by omega
          have hk3 : ((n : Int) + 2 + m).toNat = n + 2 + m := by omega
          have hk4 : n + 2 + m ≤ s.size := by omega
          have hk5 : ((n : Int) + 2) ≤ (n : Int) + 2 + m := by omega
          have hk6 : n + 2 ≤ n + 2 + m := by omega
          clear cm cb hmm hbt hbz hlen2 e1 e2 hl
          by_cases hm24 : 24 < m
          · have d3 : decide ((24 : Int) < m) = true := decide_eq_true (by omega)
            have d3' : decide (24 < m) = true := decide_eq_true hm24
            rw [if_pos hm24, tkV_bad _ _ _ _ _ (by decide)]
            clear hm24 Ck Cb
            go_enter Tryd.func67, Tryd.ntmps67
            go_wp2_with fail
            refine (Cw.out _).mono ?_; rintro e w1 ⟨rfl, rfl⟩
            go_wp2_with fail
            refine (Cu.out _).mono ?_; rintro e w1 ⟨rfl, hb⟩
            have T1 := Lib.hid (Ht0.out.keep hb)
            have H1 := Lib.hid (HB0.out.trans (hb.mono HB0.out.size)); clear hb
            go_wp2_with fail
            refine (Cm.out _).mono ?_; rintro e w2 ⟨rfl, rfl⟩
            have c0 := T1.out.c0; have c1 := T1.out.c1; have c2 := T1.out.c2; have f0 := T1.out.fz; have hlp := T1.out.lt
            go_wp2
            refine bodyPost_ret (v := .tuple #[.agg #[.int .i64 0, .string ⟨#[]⟩, .int .i64 0], .int .i64 6]) ?_ rfl ⟨rfl, ?_⟩
            · simp [results, Tryd.results67, go_sem, c0, c1, c2]
            · exact below_tok H1.out (Nat.le_refl _) _ _ _
          · have d3 : decide ((24 : Int) < m) = false := decide_eq_false (by omega)
            have d3' : decide (24 < m) = false := decide_eq_false hm24
            rw [if_neg hm24]
            by_cases hm0 : 0 < m
            · have d4 : decide ((0 : Int) < m) = true := decide_eq_true (by omega)
              have d4' : decide (0 < m) = true := decide_eq_true hm0
              cases hkb : kwB (s.extract (n + 2) (n + 2 + m)).data.toList with
              | true =>
                rw [hkb] at Cb
                rw [if_neg (by simp)]
                clear hkb hm24 hm0
                cases hk : kwB (s.extract 0 n).data.toList with
                | true =>
                  rw [hk] at Ck
                  clear hk
                  simp only [if_true, if_false, Bool.false_eq_true]
                  rw [tkV_ok]
                  go_enter Tryd.func67, Tryd.ntmps67
                  go_wp2_with fail
                  refine (Cw.out _).mono ?_; rintro e w1 ⟨rfl, rfl⟩
                  go_wp2_with fail
                  refine (Cu.out _).mono ?_; rintro e w1 ⟨rfl, hb⟩
                  have T1 := Lib.hid (Ht0.out.keep hb)
                  have H1 := Lib.hid (HB0.out.trans (hb.mono HB0.out.size)); clear hb
                  go_wp2_with fail
                  refine (Cm.out _).mono ?_; rintro e w2 ⟨rfl, rfl⟩
                  go_wp2_with fail
                  refine (Cb.out _).mono ?_; rintro e w2 ⟨rfl, hb⟩
                  have T2 := Lib.hid (T1.out.keep hb)
                  have H2 := Lib.hid (H1.out.trans (hb.mono H1.out.size)); clear hb
                  go_wp2_with fail
                  refine (Ck.out _).mono ?_; rintro e wk ⟨rfl, hb⟩
                  have Tk := Lib.hid (T2.out.keep hb)
                  have Hk := Lib.hid (H2.out.trans (hb.mono H2.out.size)); clear hb
                  have c0 := Tk.out.c0; have c1 := Tk.out.c1; have c2 := Tk.out.c2; have f0 := Tk.out.fz; have hlp := Tk.out.lt
                  go_wp2
                  refine bodyPost_ret (v := .tuple #[.agg #[.int .i64 ((1 : Nat) : Int), .string (s.extract 0 n), .int .i64 a], .int .i64 0]) ?_ rfl ⟨rfl, ?_⟩
                  · simp [results, Tryd.results67, go_sem, c0, c1, c2]
                  · exact below_tok Hk.out (Nat.le_refl _) _ _ _
                | false =>
                  rw [hk] at Ck
                  clear hk
                  simp only [if_true, if_false, Bool.false_eq_true]
                  rw [tkV_ok]
                  go_enter Tryd.func67, Tryd.ntmps67
                  go_wp2_with fail
                  refine (Cw.out _).mono ?_; rintro e w1 ⟨rfl, rfl⟩
                  go_wp2_with fail
                  refine (Cu.out _).mono ?_; rintro e w1 ⟨rfl, hb⟩
                  have T1 := Lib.hid (Ht0.out.keep hb)
                  have H1 := Lib.hid (HB0.out.trans (hb.mono HB0.out.size)); clear hb
                  go_wp2_with fail
                  refine (Cm.out _).mono ?_; rintro e w2 ⟨rfl, rfl⟩
                  go_wp2_with fail
                  refine (Cb.out _).mono ?_; rintro e w2 ⟨rfl, hb⟩
                  have T2 := Lib.hid (T1.out.keep hb)
                  have H2 := Lib.hid (H1.out.trans (hb.mono H1.out.size)); clear hb
                  go_wp2_with fail
                  refine (Ck.out _).mono ?_; rintro e wk ⟨rfl, hb⟩
                  have Tk := Lib.hid (T2.out.keep hb)
                  have Hk := Lib.hid (H2.out.trans (hb.mono H2.out.size)); clear hb
                  have c0 := Tk.out.c0; have c1 := Tk.out.c1; have c2 := Tk.out.c2; have f0 := Tk.out.fz; have hlp := Tk.out.lt
                  go_wp2
                  refine bodyPost_ret (v := .tuple #[.agg #[.int .i64 ((0 : Nat) : Int), .string (s.extract 0 n), .int .i64 a], .int .i64 0]) ?_ rfl ⟨rfl, ?_⟩
                  · simp [results, Tryd.results67, go_sem, c0, c1, c2]
                  · exact below_tok Hk.out (Nat.le_refl _) _ _ _
              | false =>
                rw [hkb] at Cb
                rw [if_pos ⟨hm0, rfl⟩, tkV_ok]
                clear hkb hm24 hm0 Ck
                go_enter Tryd.func67, Tryd.ntmps67
                go_wp2_with fail
                refine (Cw.out _).mono ?_; rintro e w1 ⟨rfl, rfl⟩
                go_wp2_with fail
                refine (Cu.out _).mono ?_; rintro e w1 ⟨rfl, hb⟩
                have T1 := Lib.hid (Ht0.out.keep hb)
                have H1 := Lib.hid (HB0.out.trans (hb.mono HB0.out.size)); clear hb
                go_wp2_with fail
                refine (Cm.out _).mono ?_; rintro e w2 ⟨rfl, rfl⟩
                go_wp2_with fail
                refine (Cb.out _).mono ?_; rintro e w2 ⟨rfl, hb⟩
                have T2 := Lib.hid (T1.out.keep hb)
                have H2 := Lib.hid (H1.out.trans (hb.mono H1.out.size)); clear hb
                have c0 := T2.out.c0; have c1 := T2.out.c1; have c2 := T2.out.c2; have f0 := T2.out.fz; have hlp := T2.out.lt
                go_wp2
                refine bodyPost_ret (v := .tuple #[.agg #[.int .i64 ((0 : Nat) : Int), .string (s.extract 0 (n + 2 + m)), .int .i64 a], .int .i64 0]) ?_ rfl ⟨rfl, ?_⟩
                · simp [results, Tryd.results67, go_sem, c0, c1, c2]
                · exact below_tok H2.out (Nat.le_refl _) _ _ _
            · have d4 : decide ((0 : Int) < m) = false := decide_eq_false (by omega)
              have d4' : decide (0 < m) = false := decide_eq_false hm0
              rw [if_neg (fun h => hm0 h.1)]
              clear hm24 hm0
              cases hk : kwB (s.extract 0 n).data.toList with
              | true =>
                rw [hk] at Ck
                clear hk
                simp only [if_true, if_false, Bool.false_eq_true]
                rw [tkV_ok]
                go_enter Tryd.func67, Tryd.ntmps67
                go_wp2_with fail
                refine (Cw.out _).mono ?_; rintro e w1 ⟨rfl, rfl⟩
                go_wp2_with fail
                refine (Cu.out _).mono ?_; rintro e w1 ⟨rfl, hb⟩
                have T1 := Lib.hid (Ht0.out.keep hb)
                have H1 := Lib.hid (HB0.out.trans (hb.mono HB0.out.size)); clear hb
                go_wp2_with fail
                refine (Cm.out _).mono ?_; rintro e w2 ⟨rfl, rfl⟩
                go_wp2_with fail
                refine (Ck.out _).mono ?_; rintro e wk ⟨rfl, hb⟩
                have Tk := Lib.hid (T1.out.keep hb)
                have Hk := Lib.hid (H1.out.trans (hb.mono H1.out.size)); clear hb
                have c0 := Tk.out.c0; have c1 := Tk.out.c1; have c2 := Tk.out.c2; have f0 := Tk.out.fz; have hlp := Tk.out.lt
                go_wp2
                refine bodyPost_ret (v := .tuple #[.agg #[.int .i64 ((1 : Nat) : Int), .string (s.extract 0 n), .int .i64 a], .int .i64 0]) ?_ rfl ⟨rfl, ?_⟩
                · simp [results, Tryd.results67, go_sem, c0, c1, c2]
                · exact below_tok Hk.out (Nat.le_refl _) _ _ _
              | false =>
                rw [hk] at Ck
                clear hk
                simp only [if_true, if_false, Bool.false_eq_true]
                rw [tkV_ok]
                go_enter Tryd.func67, Tryd.ntmps67
                go_wp2_with fail
                refine (Cw.out _).mono ?_; rintro e w1 ⟨rfl, rfl⟩
                go_wp2_with fail
                refine (Cu.out _).mono ?_; rintro e w1 ⟨rfl, hb⟩
                have T1 := Lib.hid (Ht0.out.keep hb)
                have H1 := Lib.hid (HB0.out.trans (hb.mono HB0.out.size)); clear hb
                go_wp2_with fail
                refine (Cm.out _).mono ?_; rintro e w2 ⟨rfl, rfl⟩
                go_wp2_with fail
                refine (Ck.out _).mono ?_; rintro e wk ⟨rfl, hb⟩
                have Tk := Lib.hid (T1.out.keep hb)
                have Hk := Lib.hid (H1.out.trans (hb.mono H1.out.size)); clear hb
                have c0 := Tk.out.c0; have c1 := Tk.out.c1; have c2 := Tk.out.c2; have f0 := Tk.out.fz; have hlp := Tk.out.lt
                go_wp2
                refine bodyPost_ret (v := .tuple #[.agg #[.int .i64 ((0 : Nat) : Int), .string (s.extract 0 n), .int .i64 a], .int .i64 0]) ?_ rfl ⟨rfl, ?_⟩
                · simp [results, Tryd.results67, go_sem, c0, c1, c2]
                · exact below_tok Hk.out (Nat.le_refl _) _ _ _
      · have d2 : decide (((n : Int) + 2) < s.size) = false := decide_eq_false (by omega)
        have d2' : decide (n + 2 < s.size) = false := decide_eq_false hlt
        rw [d2', Bool.false_and, if_neg (by simp)]
        clear hlt e1 e2 hl
        cases hk : kwB (s.extract 0 n).data.toList with
        | true =>
          rw [hk] at Ck
          clear hk
          simp only [if_true, if_false, Bool.false_eq_true]
          rw [tkV_ok]
          go_enter Tryd.func67, Tryd.ntmps67
          go_wp2_with fail
          refine (Cw.out _).mono ?_; rintro e w1 ⟨rfl, rfl⟩
          go_wp2_with fail
          refine (Cu.out _).mono ?_; rintro e w1 ⟨rfl, hb⟩
          have T1 := Lib.hid (Ht0.out.keep hb)
          have H1 := Lib.hid (HB0.out.trans (hb.mono HB0.out.size)); clear hb
          go_wp2_with fail
          refine (Ck.out _).mono ?_; rintro e wk ⟨rfl, hb⟩
          have Tk := Lib.hid (T1.out.keep hb)
          have Hk := Lib.hid (H1.out.trans (hb.mono H1.out.size)); clear hb
          have c0 := Tk.out.c0; have c1 := Tk.out.c1; have c2 := Tk.out.c2; have f0 := Tk.out.fz; have hlp := Tk.out.lt
          go_wp2
          refine bodyPost_ret (v := .tuple #[.agg #[.int .i64 ((1 : Nat) : Int), .string (s.extract 0 n), .int .i64 a], .int .i64 0]) ?_ rfl ⟨rfl, ?_⟩
          · simp [results, Tryd.results67, go_sem, c0, c1, c2]
          · exact below_tok Hk.out (Nat.le_refl _) _ _ _
        | false =>
          rw [hk] at Ck
          clear hk
          simp only [if_true, if_false, Bool.false_eq_true]
          rw [tkV_ok]
          go_enter Tryd.func67, Tryd.ntmps67
          go_wp2_with fail
          refine (Cw.out _).mono ?_; rintro e w1 ⟨rfl, rfl⟩
          go_wp2_with fail
          refine (Cu.out _).mono ?_; rintro e w1 ⟨rfl, hb⟩
          have T1 := Lib.hid (Ht0.out.keep hb)
          have H1 := Lib.hid (HB0.out.trans (hb.mono HB0.out.size)); clear hb
          go_wp2_with fail
          refine (Ck.out _).mono ?_; rintro e wk ⟨rfl, hb⟩
          have Tk := Lib.hid (T1.out.keep hb)
          have Hk := Lib.hid (H1.out.trans (hb.mono H1.out.size)); clear hb
          have c0 := Tk.out.c0; have c1 := Tk.out.c1; have c2 := Tk.out.c2; have f0 := Tk.out.fz; have hlp := Tk.out.lt
          go_wp2
          refine bodyPost_ret (v := .tuple #[.agg #[.int .i64 ((0 : Nat) : Int), .string (s.extract 0 n), .int .i64 a], .int .i64 0]) ?_ rfl ⟨rfl, ?_⟩
          · simp [results, Tryd.results67, go_sem, c0, c1, c2]
          · exact below_tok Hk.out (Nat.le_refl _) _ _ _
end Go.Proofs.YtokdoklkaojheaaDoor

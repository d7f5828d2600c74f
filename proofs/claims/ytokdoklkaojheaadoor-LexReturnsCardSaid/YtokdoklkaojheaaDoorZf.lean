import Derived.Test.YtokdoklkaojheaaDoorZe
namespace Go.Proofs.YtokdoklkaojheaaDoor
open Go.RowKit

theorem getD_byte (s : ByteArray) (k : Nat) (h : k < s.size) : s.data.toList.getD k 0 = s[k]'h := by
  rw [getD_at _ _ _ (by simpa using h)]; rfl

set_option maxHeartbeats 16000000 in
set_option maxRecDepth 100000 in
theorem refNumber_any (s : ByteArray) (a : Int) (w : World) (hs : s.size ≤ 65536) :
    Calls Tryd.prog 69 #[.string s, .int .i64 a] w fun e w' => e = .returned (tkV s a (numberL s.data.toList)) ∧ Below w.heap.size w w' := by
  have hl := list_size s
  have hz := tw_size isDigB s
  have cd := fun w => refDigits_any s w hs
  have e2 : ∀ n, s.data.toList.drop n = (s.extract n s.size).data.toList := by intro n; rw [Lib.extract_to_end]
  have hN : numberL s.data.toList = if 1 < tw isDigB s.data.toList ∧ (s.data.toList.getD 0 0).toNat = 48 then (0, 0, 22)
    else if numBadS s.data.toList = true then (0, 0, 22) else ((numEndS s.data.toList).1, (numEndS s.data.toList).2, 0) := rfl
  have hE : numEndS s.data.toList = if numDotS s.data.toList = true then (3, tw isDigB s.data.toList + 1 + tw isDigB (s.data.toList.drop (tw isDigB s.data.toList + 1))) else (2, tw isDigB s.data.toList) := rfl
  have hDt : numDotS s.data.toList = (decide (tw isDigB s.data.toList < s.data.toList.length) && (decide ((s.data.toList.getD (tw isDigB s.data.toList) 0).toNat = 46) && decide (0 < tw isDigB (s.data.toList.drop (tw isDigB s.data.toList + 1))))) := rfl
  have hBd : numBadS s.data.toList = (decide ((numEndS s.data.toList).2 < s.data.toList.length) && (isLetB (s.data.toList.getD (numEndS s.data.toList).2 0) || decide ((s.data.toList.getD (numEndS s.data.toList).2 0).toNat = 95))) := rfl
  obtain ⟨n, hn⟩ : ∃ n, tw isDigB s.data.toList = n := ⟨_, rfl⟩
  rw [hn] at hz cd hN hE hDt
  rw [e2 (n + 1)] at hE hDt
  rw [hl] at hDt hBd
  have hsn := extract_min s n hz
  have Cd := Lib.hid cd
  have HN := Lib.hid hN; have HE := Lib.hid hE; have HDt := Lib.hid hDt; have HBd := Lib.hid hBd
  clear cd hN hE hDt hBd hn e2 hl
  by_cases h1 : 1 < n
  · have d1 : decide ((1 : Int) < n) = true := decide_eq_true (by omega)
    have d1' : decide (1 < n) = true := decide_eq_true h1
    have hp0 : 0 < s.size := by omega
    have hg := getD_zero s hp0
    by_cases h48 : (s[0]'hp0).toNat = 48
    · have e48 : (((s[0]'hp0).toNat : Int) == 48) = true := by rw [h48]; rfl
      have hv : numberL s.data.toList = (0, 0, 22) := by
        rw [HN.out, if_pos ⟨h1, by rw [hg]; exact h48⟩]
      have HV := Lib.hid hv; clear hv h48 hg
      go_enter Tryd.func69, Tryd.ntmps69
      go_wp2_with fail
      refine (Cd.out _).mono ?_; rintro e w1 ⟨rfl, rfl⟩
      go_wp2
      refine bodyPost_ret (v := .tuple #[.agg #[.int .i64 0, .string ⟨#[]⟩, .int .i64 0], .int .i64 22]) ?_ rfl ⟨by rw [HV.out]; rfl, ?_⟩
      · simp [results, Tryd.results69, go_sem]
      · exact below_two w _ _
    · have e48 : (((s[0]'hp0).toNat : Int) == 48) = false := by simp; omega
      have hb0 : ¬ (1 < n ∧ (s.data.toList.getD 0 0).toNat = 48) := by rw [hg]; exact fun h => h48 h.2
      have Hb0 := Lib.hid hb0; clear hb0 h48 hg
      by_cases hE : n < s.size
      · have dn : decide ((n : Int) < s.size) = true := decide_eq_true (by omega)
        have dn' : decide (n < s.size) = true := decide_eq_true hE
        have hgn := getD_byte s n hE
        have Hgn := Lib.hid hgn; clear hgn
        have hj1 : ((n : Int) + 1) ≤ (s.size : Int) := by omega
        have hj2 : (0 : Int) ≤ (n : Int) + 1 := by omega
        have hj3 : ((n : Int) + 1).toNat = n + 1 := by omega
        have hj4 : n + 1 ≤ s.size := by omega
        by_cases h46 : (s[n]'hE).toNat = 46
        · have e46 : (((s[n]'hE).toNat : Int) == 46) = true := by rw [h46]; rfl
          have H46 := Lib.hid h46; clear h46
          have cd2 := fun w => refDigits_any (s.extract (n + 1) s.size) w (by simp; omega)
          have hdz := tw_size isDigB (s.extract (n + 1) s.size)
          have hxl : (s.extract (n + 1) s.size).size = s.size - (n + 1) := by simp
          rw [hxl] at hdz
          have HE2 := HE.out; have HDt2 := HDt.out
          obtain ⟨d, hd⟩ : ∃ d, tw isDigB (s.extract (n + 1) s.size).data.toList = d := ⟨_, rfl⟩
          rw [hd] at cd2 hdz HE2 HDt2
          have Cd2 := Lib.hid cd2; have HE3 := Lib.hid HE2; have HDt3 := Lib.hid HDt2; clear cd2 hd HE2 HDt2 hxl
          by_cases hd0 : 0 < d
          · have dd : decide ((0 : Int) < d) = true := decide_eq_true (by omega)
            have dd' : decide (0 < d) = true := decide_eq_true hd0
            have hEv : numEndS s.data.toList = (3, n + 1 + d) := by
              rw [HE3.out, if_pos]
              rw [HDt3.out, Hgn.out, decide_eq_true hE, decide_eq_true H46.out, decide_eq_true hd0]; rfl
            have HEv := Lib.hid hEv; clear hEv
            have hk1 : ((n : Int) + 1 + d) ≤ (s.size : Int) := by omega
            have hk2 : (0 : Int) ≤ (n : Int) + 1 + d := by omega
            have hk3 : ((n : Int) + 1 + d).toNat = n + 1 + d := by omega
            have hk4 : n + 1 + d ≤ s.size := by omega
            by_cases hE2 : n + 1 + d < s.size
            · have de : decide (((n + 1 + d : Nat) : Int) < s.size) = true := decide_eq_true (by omega)
              have de' : decide (n + 1 + d < s.size) = true := decide_eq_true hE2
              have de2 : decide ((n : Int) + 1 + (d : Int) < s.size) = true := decide_eq_true (by omega)
              have cl := fun w => refLetter_any ((s[n + 1 + d]'hE2).toNat : Int) w
              have hgb := getD_byte s (n + 1 + d) hE2
              have Hgb := Lib.hid hgb; clear hgb
              cases hlb : isLetZ ((s[n + 1 + d]'hE2).toNat : Int) with
              | true =>
                rw [hlb] at cl
                have Cl := Lib.hid cl; clear cl
                have Hlb := Lib.hid hlb; clear hlb
                have hv : numberL s.data.toList = (0, 0, 22) := by
                  rw [HN.out, if_neg Hb0.out, HBd.out, HEv.out]
                  have h1 : isLetB (s.data.toList.getD (n + 1 + d) 0) = true := by rw [Hgb.out]; exact Hlb.out
                  simp only [h1, decide_eq_true hE2, Bool.true_or, Bool.true_and, if_true]
                have HV := Lib.hid hv; clear hv
                go_enter Tryd.func69, Tryd.ntmps69
                go_wp2_with fail
                refine (Cd.out _).mono ?_; rintro e w1 ⟨rfl, rfl⟩
                go_wp2_with fail
                refine (Cd2.out _).mono ?_; rintro e w1 ⟨rfl, rfl⟩
                go_wp2_with fail
                refine (Cd2.out _).mono ?_; rintro e w1 ⟨rfl, rfl⟩
                go_wp2_with fail
                refine (Cl.out _).mono ?_; rintro e w1 ⟨rfl, rfl⟩
                go_wp2
                refine bodyPost_ret (v := .tuple #[.agg #[.int .i64 0, .string ⟨#[]⟩, .int .i64 0], .int .i64 22]) ?_ rfl ⟨by rw [HV.out]; rfl, ?_⟩
                · simp [results, Tryd.results69, go_sem]
                · exact below_two w _ _
              | false =>
                rw [hlb] at cl
                have Cl := Lib.hid cl; clear cl
                have Hlb := Lib.hid hlb; clear hlb
                by_cases h95 : (s[n + 1 + d]'hE2).toNat = 95
                · have e95 : (((s[n + 1 + d]'hE2).toNat : Int) == 95) = true := by rw [h95]; rfl
                  have H95 := Lib.hid h95; clear h95
                  have hv : numberL s.data.toList = (0, 0, 22) := by
                    rw [HN.out, if_neg Hb0.out, HBd.out, HEv.out]
                    have h1 : (s.data.toList.getD (n + 1 + d) 0).toNat = 95 := by rw [Hgb.out]; exact H95.out
                    simp only [h1, decide_eq_true hE2, decide_true, Bool.or_true, Bool.true_and, if_true]
                  have HV := Lib.hid hv; clear hv
                  go_enter Tryd.func69, Tryd.ntmps69
                  go_wp2_with fail
                  refine (Cd.out _).mono ?_; rintro e w1 ⟨rfl, rfl⟩
                  go_wp2_with fail
                  refine (Cd2.out _).mono ?_; rintro e w1 ⟨rfl, rfl⟩
                  go_wp2_with fail
                  refine (Cd2.out _).mono ?_; rintro e w1 ⟨rfl, rfl⟩
                  go_wp2_with fail
                  refine (Cl.out _).mono ?_; rintro e w1 ⟨rfl, rfl⟩
                  go_wp2
                  refine bodyPost_ret (v := .tuple #[.agg #[.int .i64 0, .string ⟨#[]⟩, .int .i64 0], .int .i64 22]) ?_ rfl ⟨by rw [HV.out]; rfl, ?_⟩
                  · simp [results, Tryd.results69, go_sem]
                  · exact below_two w _ _
                · have e95 : (((s[n + 1 + d]'hE2).toNat : Int) == 95) = false := by simp; omega
                  have H95 := Lib.hid h95; clear h95
                  have hv : numberL s.data.toList = (3, n + 1 + d, 0) := by
                    rw [HN.out, if_neg Hb0.out, HBd.out, HEv.out]
                    have h1 : ¬ (s.data.toList.getD (n + 1 + d) 0).toNat = 95 := by rw [Hgb.out]; exact H95.out
                    have h2 : isLetB (s.data.toList.getD (n + 1 + d) 0) = false := by rw [Hgb.out]; exact Hlb.out
                    simp only [h2, decide_eq_true hE2, decide_eq_false h1, Bool.or_false, Bool.and_false, Bool.false_eq_true, if_false]
                  have HV := Lib.hid hv; clear hv
                  go_enter Tryd.func69, Tryd.ntmps69
                  go_wp2_with fail
                  refine (Cd.out _).mono ?_; rintro e w1 ⟨rfl, rfl⟩
                  go_wp2_with fail
                  refine (Cd2.out _).mono ?_; rintro e w1 ⟨rfl, rfl⟩
                  go_wp2_with fail
                  refine (Cd2.out _).mono ?_; rintro e w1 ⟨rfl, rfl⟩
                  go_wp2_with fail
                  refine (Cl.out _).mono ?_; rintro e w1 ⟨rfl, rfl⟩
                  go_wp2
                  refine bodyPost_ret (v := .tuple #[.agg #[.int .i64 ((3 : Nat) : Int), .string (s.extract 0 (n + 1 + d)), .int .i64 a], .int .i64 0]) ?_ rfl ⟨by rw [HV.out]; rfl, ?_⟩
                  · simp [results, Tryd.results69, go_sem]
                  · exact below_two w _ _
            · have de : decide (((n + 1 + d : Nat) : Int) < s.size) = false := decide_eq_false (by omega)
              have de' : decide (n + 1 + d < s.size) = false := decide_eq_false hE2
              have de2 : decide ((n : Int) + 1 + (d : Int) < s.size) = false := decide_eq_false (by omega)
              have hv : numberL s.data.toList = (3, n + 1 + d, 0) := by
                rw [HN.out, if_neg Hb0.out, HBd.out, HEv.out]
                simp only [decide_eq_false hE2, Bool.false_and, Bool.false_eq_true, if_false]
              have HV := Lib.hid hv; clear hv
              go_enter Tryd.func69, Tryd.ntmps69
              go_wp2_with fail
              refine (Cd.out _).mono ?_; rintro e w1 ⟨rfl, rfl⟩
              go_wp2_with fail
              refine (Cd2.out _).mono ?_; rintro e w1 ⟨rfl, rfl⟩
              go_wp2_with fail
              refine (Cd2.out _).mono ?_; rintro e w1 ⟨rfl, rfl⟩
              go_wp2
              refine bodyPost_ret (v := .tuple #[.agg #[.int .i64 ((3 : Nat) : Int), .string (s.extract 0 (n + 1 + d)), .int .i64 a], .int .i64 0]) ?_ rfl ⟨by rw [HV.out]; rfl, ?_⟩
              · simp [results, Tryd.results69, go_sem]
              · exact below_two w _ _
          · have dd : decide ((0 : Int) < d) = false := decide_eq_false (by omega)
            have dd' : decide (0 < d) = false := decide_eq_false hd0
            have hEv : numEndS s.data.toList = (2, n) := by
              rw [HE3.out, if_neg]
              rw [HDt3.out, decide_eq_false hd0]; simp
            have HEv := Lib.hid hEv; clear hEv
            have cl := fun w => refLetter_any ((s[n]'hE).toNat : Int) w
            have hgb := getD_byte s (n) hE
            have Hgb := Lib.hid hgb; clear hgb
            cases hlb : isLetZ ((s[n]'hE).toNat : Int) with
            | true =>
              rw [hlb] at cl
              have Cl := Lib.hid cl; clear cl
              have Hlb := Lib.hid hlb; clear hlb
              have hv : numberL s.data.toList = (0, 0, 22) := by
                rw [HN.out, if_neg Hb0.out, HBd.out, HEv.out]
                have h1 : isLetB (s.data.toList.getD (n) 0) = true := by rw [Hgb.out]; exact Hlb.out
                simp only [h1, decide_eq_true hE, Bool.true_or, Bool.true_and, if_true]
              have HV := Lib.hid hv; clear hv
              go_enter Tryd.func69, Tryd.ntmps69
              go_wp2_with fail
              refine (Cd.out _).mono ?_; rintro e w1 ⟨rfl, rfl⟩
              go_wp2_with fail
              refine (Cd2.out _).mono ?_; rintro e w1 ⟨rfl, rfl⟩
              go_wp2_with fail
              refine (Cl.out _).mono ?_; rintro e w1 ⟨rfl, rfl⟩
              go_wp2
              refine bodyPost_ret (v := .tuple #[.agg #[.int .i64 0, .string ⟨#[]⟩, .int .i64 0], .int .i64 22]) ?_ rfl ⟨by rw [HV.out]; rfl, ?_⟩
              · simp [results, Tryd.results69, go_sem]
              · exact below_two w _ _
            | false =>
              rw [hlb] at cl
              have Cl := Lib.hid cl; clear cl
              have Hlb := Lib.hid hlb; clear hlb
              by_cases h95 : (s[n]'hE).toNat = 95
              · have e95 : (((s[n]'hE).toNat : Int) == 95) = true := by rw [h95]; rfl
                have H95 := Lib.hid h95; clear h95
                have hv : numberL s.data.toList = (0, 0, 22) := by
                  rw [HN.out, if_neg Hb0.out, HBd.out, HEv.out]
                  have h1 : (s.data.toList.getD (n) 0).toNat = 95 := by rw [Hgb.out]; exact H95.out
                  simp only [h1, decide_eq_true hE, decide_true, Bool.or_true, Bool.true_and, if_true]
                have HV := Lib.hid hv; clear hv
                go_enter Tryd.func69, Tryd.ntmps69
                go_wp2_with fail
                refine (Cd.out _).mono ?_; rintro e w1 ⟨rfl, rfl⟩
                go_wp2_with fail
                refine (Cd2.out _).mono ?_; rintro e w1 ⟨rfl, rfl⟩
                go_wp2_with fail
                refine (Cl.out _).mono ?_; rintro e w1 ⟨rfl, rfl⟩
                go_wp2
                refine bodyPost_ret (v := .tuple #[.agg #[.int .i64 0, .string ⟨#[]⟩, .int .i64 0], .int .i64 22]) ?_ rfl ⟨by rw [HV.out]; rfl, ?_⟩
                · simp [results, Tryd.results69, go_sem]
                · exact below_two w _ _
              · have e95 : (((s[n]'hE).toNat : Int) == 95) = false := by simp; omega
                have H95 := Lib.hid h95; clear h95
                have hv : numberL s.data.toList = (2, n, 0) := by
                  rw [HN.out, if_neg Hb0.out, HBd.out, HEv.out]
                  have h1 : ¬ (s.data.toList.getD (n) 0).toNat = 95 := by rw [Hgb.out]; exact H95.out
                  have h2 : isLetB (s.data.toList.getD (n) 0) = false := by rw [Hgb.out]; exact Hlb.out
                  simp only [h2, decide_eq_true hE, decide_eq_false h1, Bool.or_false, Bool.and_false, Bool.false_eq_true, if_false]
                have HV := Lib.hid hv; clear hv
                go_enter Tryd.func69, Tryd.ntmps69
                go_wp2_with fail
                refine (Cd.out _).mono ?_; rintro e w1 ⟨rfl, rfl⟩
                go_wp2_with fail
                refine (Cd2.out _).mono ?_; rintro e w1 ⟨rfl, rfl⟩
                go_wp2_with fail
                refine (Cl.out _).mono ?_; rintro e w1 ⟨rfl, rfl⟩
                go_wp2
                refine bodyPost_ret (v := .tuple #[.agg #[.int .i64 ((2 : Nat) : Int), .string (s.extract 0 (n)), .int .i64 a], .int .i64 0]) ?_ rfl ⟨by rw [HV.out]; rfl, ?_⟩
                · simp [results, Tryd.results69, go_sem]
                · exact below_two w _ _
        · have e46 : (((s[n]'hE).toNat : Int) == 46) = false := by simp; omega
          have hEv : numEndS s.data.toList = (2, n) := by
            rw [HE.out, if_neg]
            rw [HDt.out, Hgn.out, decide_eq_false h46]; simp
          have HEv := Lib.hid hEv; clear hEv h46
          have cl := fun w => refLetter_any ((s[n]'hE).toNat : Int) w
          have hgb := getD_byte s (n) hE
          have Hgb := Lib.hid hgb; clear hgb
          cases hlb : isLetZ ((s[n]'hE).toNat : Int) with
          | true =>
            rw [hlb] at cl
            have Cl := Lib.hid cl; clear cl
            have Hlb := Lib.hid hlb; clear hlb
            have hv : numberL s.data.toList = (0, 0, 22) := by
              rw [HN.out, if_neg Hb0.out, HBd.out, HEv.out]
              have h1 : isLetB (s.data.toList.getD (n) 0) = true := by rw [Hgb.out]; exact Hlb.out
              simp only [h1, decide_eq_true hE, Bool.true_or, Bool.true_and, if_true]
            have HV := Lib.hid hv; clear hv
            go_enter Tryd.func69, Tryd.ntmps69
            go_wp2_with fail
            refine (Cd.out _).mono ?_; rintro e w1 ⟨rfl, rfl⟩
            go_wp2_with fail
            refine (Cl.out _).mono ?_; rintro e w1 ⟨rfl, rfl⟩
            go_wp2
            refine bodyPost_ret (v := .tuple #[.agg #[.int .i64 0, .string ⟨#[]⟩, .int .i64 0], .int .i64 22]) ?_ rfl ⟨by rw [HV.out]; rfl, ?_⟩
            · simp [results, Tryd.results69, go_sem]
            · exact below_two w _ _
          | false =>
            rw [hlb] at cl
            have Cl := Lib.hid cl; clear cl
            have Hlb := Lib.hid hlb; clear hlb
            by_cases h95 : (s[n]'hE).toNat = 95
            · have e95 : (((s[n]'hE).toNat : Int) == 95) = true := by rw [h95]; rfl
              have H95 := Lib.hid h95; clear h95
              have hv : numberL s.data.toList = (0, 0, 22) := by
                rw [HN.out, if_neg Hb0.out, HBd.out, HEv.out]
                have h1 : (s.data.toList.getD (n) 0).toNat = 95 := by rw [Hgb.out]; exact H95.out
                simp only [h1, decide_eq_true hE, decide_true, Bool.or_true, Bool.true_and, if_true]
              have HV := Lib.hid hv; clear hv
              go_enter Tryd.func69, Tryd.ntmps69
              go_wp2_with fail
              refine (Cd.out _).mono ?_; rintro e w1 ⟨rfl, rfl⟩
              go_wp2_with fail
              refine (Cl.out _).mono ?_; rintro e w1 ⟨rfl, rfl⟩
              go_wp2
              refine bodyPost_ret (v := .tuple #[.agg #[.int .i64 0, .string ⟨#[]⟩, .int .i64 0], .int .i64 22]) ?_ rfl ⟨by rw [HV.out]; rfl, ?_⟩
              · simp [results, Tryd.results69, go_sem]
              · exact below_two w _ _
            · have e95 : (((s[n]'hE).toNat : Int) == 95) = false := by simp; omega
              have H95 := Lib.hid h95; clear h95
              have hv : numberL s.data.toList = (2, n, 0) := by
                rw [HN.out, if_neg Hb0.out, HBd.out, HEv.out]
                have h1 : ¬ (s.data.toList.getD (n) 0).toNat = 95 := by rw [Hgb.out]; exact H95.out
                have h2 : isLetB (s.data.toList.getD (n) 0) = false := by rw [Hgb.out]; exact Hlb.out
                simp only [h2, decide_eq_true hE, decide_eq_false h1, Bool.or_false, Bool.and_false, Bool.false_eq_true, if_false]
              have HV := Lib.hid hv; clear hv
              go_enter Tryd.func69, Tryd.ntmps69
              go_wp2_with fail
              refine (Cd.out _).mono ?_; rintro e w1 ⟨rfl, rfl⟩
              go_wp2_with fail
              refine (Cl.out _).mono ?_; rintro e w1 ⟨rfl, rfl⟩
              go_wp2
              refine bodyPost_ret (v := .tuple #[.agg #[.int .i64 ((2 : Nat) : Int), .string (s.extract 0 (n)), .int .i64 a], .int .i64 0]) ?_ rfl ⟨by rw [HV.out]; rfl, ?_⟩
              · simp [results, Tryd.results69, go_sem]
              · exact below_two w _ _
      · have dn : decide ((n : Int) < s.size) = false := decide_eq_false (by omega)
        have dn' : decide (n < s.size) = false := decide_eq_false hE
        have hEv : numEndS s.data.toList = (2, n) := by
          rw [HE.out, if_neg]
          rw [HDt.out, decide_eq_false hE]; simp
        have HEv := Lib.hid hEv; clear hEv
        have hv : numberL s.data.toList = (2, n, 0) := by
          rw [HN.out, if_neg Hb0.out, HBd.out, HEv.out]
          simp only [decide_eq_false hE, Bool.false_and, Bool.false_eq_true, if_false]
        have HV := Lib.hid hv; clear hv
        go_enter Tryd.func69, Tryd.ntmps69
        go_wp2_with fail
        refine (Cd.out _).mono ?_; rintro e w1 ⟨rfl, rfl⟩
        go_wp2
        refine bodyPost_ret (v := .tuple #[.agg #[.int .i64 ((2 : Nat) : Int), .string (s.extract 0 (n)), .int .i64 a], .int .i64 0]) ?_ rfl ⟨by rw [HV.out]; rfl, ?_⟩
        · simp [results, Tryd.results69, go_sem]
        · exact below_two w _ _
  · have d1 : decide ((1 : Int) < n) = false := decide_eq_false (by omega)
    have d1' : decide (1 < n) = false := decide_eq_false h1
    have hb0 : ¬ (1 < n ∧ (s.data.toList.getD 0 0).toNat = 48) := fun h => h1 h.1
    have Hb0 := Lib.hid hb0; clear hb0
    by_cases hE : n < s.size
    · have dn : decide ((n : Int) < s.size) = true := decide_eq_true (by omega)
      have dn' : decide (n < s.size) = true := decide_eq_true hE
      have hgn := getD_byte s n hE
      have Hgn := Lib.hid hgn; clear hgn
      have hj1 : ((n : Int) + 1) ≤ (s.size : Int) := by omega
      have hj2 : (0 : Int) ≤ (n : Int) + 1 := by omega
      have hj3 : ((n : Int) + 1).toNat = n + 1 := by omega
      have hj4 : n + 1 ≤ s.size := by omega
      by_cases h46 : (s[n]'hE).toNat = 46
      · have e46 : (((s[n]'hE).toNat : Int) == 46) = true := by rw [h46]; rfl
        have H46 := Lib.hid h46; clear h46
        have cd2 := fun w => refDigits_any (s.extract (n + 1) s.size) w (by simp; omega)
        have hdz := tw_size isDigB (s.extract (n + 1) s.size)
        have hxl : (s.extract (n + 1) s.size).size = s.size - (n + 1) := by simp
        rw [hxl] at hdz
        have HE2 := HE.out; have HDt2 := HDt.out
        obtain ⟨d, hd⟩ : ∃ d, tw isDigB (s.extract (n + 1) s.size).data.toList = d := ⟨_, rfl⟩
        rw [hd] at cd2 hdz HE2 HDt2
        have Cd2 := Lib.hid cd2; have HE3 := Lib.hid HE2; have HDt3 := Lib.hid HDt2; clear cd2 hd HE2 HDt2 hxl
        by_cases hd0 : 0 < d
        · have dd : decide ((0 : Int) < d) = true := decide_eq_true (by omega)
          have dd' : decide (0 < d) = true := decide_eq_true hd0
          have hEv : numEndS s.data.toList = (3, n + 1 + d) := by
            rw [HE3.out, if_pos]
            rw [HDt3.out, Hgn.out, decide_eq_true hE, decide_eq_true H46.out, decide_eq_true hd0]; rfl
          have HEv := Lib.hid hEv; clear hEv
          have hk1 : ((n : Int) + 1 + d) ≤ (s.size : Int) := by omega
          have hk2 : (0 : Int) ≤ (n : Int) + 1 + d := by omega
          have hk3 : ((n : Int) + 1 + d).toNat = n + 1 + d := by omega
          have hk4 : n + 1 + d ≤ s.size := by omega
          by_cases hE2 : n + 1 + d < s.size
          · have de : decide (((n + 1 + d : Nat) : Int) < s.size) = true := decide_eq_true (by omega)
            have de' : decide (n + 1 + d < s.size) = true := decide_eq_true hE2
            have de2 : decide ((n : Int) + 1 + (d : Int) < s.size) = true := decide_eq_true (by omega)
            have cl := fun w => refLetter_any ((s[n + 1 + d]'hE2).toNat : Int) w
            have hgb := getD_byte s (n + 1 + d) hE2
            have Hgb := Lib.hid hgb; clear hgb
            cases hlb : isLetZ ((s[n + 1 + d]'hE2).toNat : Int) with
            | true =>
              rw [hlb] at cl
              have Cl := Lib.hid cl; clear cl
              have Hlb := Lib.hid hlb; clear hlb
              have hv : numberL s.data.toList = (0, 0, 22) := by
                rw [HN.out, if_neg Hb0.out, HBd.out, HEv.out]
                have h1 : isLetB (s.data.toList.getD (n + 1 + d) 0) = true := by rw [Hgb.out]; exact Hlb.out
                simp only [h1, decide_eq_true hE2, Bool.true_or, Bool.true_and, if_true]
              have HV := Lib.hid hv; clear hv
              go_enter Tryd.func69, Tryd.ntmps69
              go_wp2_with fail
              refine (Cd.out _).mono ?_; rintro e w1 ⟨rfl, rfl⟩
              go_wp2_with fail
              refine (Cd2.out _).mono ?_; rintro e w1 ⟨rfl, rfl⟩
              go_wp2_with fail
              refine (Cd2.out _).mono ?_; rintro e w1 ⟨rfl, rfl⟩
              go_wp2_with fail
              refine (Cl.out _).mono ?_; rintro e w1 ⟨rfl, rfl⟩
              go_wp2
              refine bodyPost_ret (v := .tuple #[.agg #[.int .i64 0, .string ⟨#[]⟩, .int .i64 0], .int .i64 22]) ?_ rfl ⟨by rw [HV.out]; rfl, ?_⟩
              · simp [results, Tryd.results69, go_sem]
              · exact below_two w _ _
            | false =>
              rw [hlb] at cl
              have Cl := Lib.hid cl; clear cl
              have Hlb := Lib.hid hlb; clear hlb
              by_cases h95 : (s[n + 1 + d]'hE2).toNat = 95
              · have e95 : (((s[n + 1 + d]'hE2).toNat : Int) == 95) = true := by rw [h95]; rfl
                have H95 := Lib.hid h95; clear h95
                have hv : numberL s.data.toList = (0, 0, 22) := by
                  rw [HN.out, if_neg Hb0.out, HBd.out, HEv.out]
                  have h1 : (s.data.toList.getD (n + 1 + d) 0).toNat = 95 := by rw [Hgb.out]; exact H95.out
                  simp only [h1, decide_eq_true hE2, decide_true, Bool.or_true, Bool.true_and, if_true]
                have HV := Lib.hid hv; clear hv
                go_enter Tryd.func69, Tryd.ntmps69
                go_wp2_with fail
                refine (Cd.out _).mono ?_; rintro e w1 ⟨rfl, rfl⟩
                go_wp2_with fail
                refine (Cd2.out _).mono ?_; rintro e w1 ⟨rfl, rfl⟩
                go_wp2_with fail
                refine (Cd2.out _).mono ?_; rintro e w1 ⟨rfl, rfl⟩
                go_wp2_with fail
                refine (Cl.out _).mono ?_; rintro e w1 ⟨rfl, rfl⟩
                go_wp2
                refine bodyPost_ret (v := .tuple #[.agg #[.int .i64 0, .string ⟨#[]⟩, .int .i64 0], .int .i64 22]) ?_ rfl ⟨by rw [HV.out]; rfl, ?_⟩
                · simp [results, Tryd.results69, go_sem]
                · exact below_two w _ _
              · have e95 : (((s[n + 1 + d]'hE2).toNat : Int) == 95) = false := by simp; omega
                have H95 := Lib.hid h95; clear h95
                have hv : numberL s.data.toList = (3, n + 1 + d, 0) := by
                  rw [HN.out, if_neg Hb0.out, HBd.out, HEv.out]
                  have h1 : ¬ (s.data.toList.getD (n + 1 + d) 0).toNat = 95 := by rw [Hgb.out]; exact H95.out
                  have h2 : isLetB (s.data.toList.getD (n + 1 + d) 0) = false := by rw [Hgb.out]; exact Hlb.out
                  simp only [h2, decide_eq_true hE2, decide_eq_false h1, Bool.or_false, Bool.and_false, Bool.false_eq_true, if_false]
                have HV := Lib.hid hv; clear hv
                go_enter Tryd.func69, Tryd.ntmps69
                go_wp2_with fail
                refine (Cd.out _).mono ?_; rintro e w1 ⟨rfl, rfl⟩
                go_wp2_with fail
                refine (Cd2.out _).mono ?_; rintro e w1 ⟨rfl, rfl⟩
                go_wp2_with fail
                refine (Cd2.out _).mono ?_; rintro e w1 ⟨rfl, rfl⟩
                go_wp2_with fail
                refine (Cl.out _).mono ?_; rintro e w1 ⟨rfl, rfl⟩
                go_wp2
                refine bodyPost_ret (v := .tuple #[.agg #[.int .i64 ((3 : Nat) : Int), .string (s.extract 0 (n + 1 + d)), .int .i64 a], .int .i64 0]) ?_ rfl ⟨by rw [HV.out]; rfl, ?_⟩
                · simp [results, Tryd.results69, go_sem]
                · exact below_two w _ _
          · have de : decide (((n + 1 + d : Nat) : Int) < s.size) = false := decide_eq_false (by omega)
            have de' : decide (n + 1 + d < s.size) = false := decide_eq_false hE2
            have de2 : decide ((n : Int) + 1 + (d : Int) < s.size) = false := decide_eq_false (by omega)
            have hv : numberL s.data.toList = (3, n + 1 + d, 0) := by
              rw [HN.out, if_neg Hb0.out, HBd.out, HEv.out]
              simp only [decide_eq_false hE2, Bool.false_and, Bool.false_eq_true, if_false]
            have HV := Lib.hid hv; clear hv
            go_enter Tryd.func69, Tryd.ntmps69
            go_wp2_with fail
            refine (Cd.out _).mono ?_; rintro e w1 ⟨rfl, rfl⟩
            go_wp2_with fail
            refine (Cd2.out _).mono ?_; rintro e w1 ⟨rfl, rfl⟩
            go_wp2_with fail
            refine (Cd2.out _).mono ?_; rintro e w1 ⟨rfl, rfl⟩
            go_wp2
            refine bodyPost_ret (v := .tuple #[.agg #[.int .i64 ((3 : Nat) : Int), .string (s.extract 0 (n + 1 + d)), .int .i64 a], .int .i64 0]) ?_ rfl ⟨by rw [HV.out]; rfl, ?_⟩
            · simp [results, Tryd.results69, go_sem]
            · exact below_two w _ _
        · have dd : decide ((0 : Int) < d) = false := decide_eq_false (by omega)
          have dd' : decide (0 < d) = false := decide_eq_false hd0
          have hEv : numEndS s.data.toList = (2, n) := by
            rw [HE3.out, if_neg]
            rw [HDt3.out, decide_eq_false hd0]; simp
          have HEv := Lib.hid hEv; clear hEv
          have cl := fun w => refLetter_any ((s[n]'hE).toNat : Int) w
          have hgb := getD_byte s (n) hE
          have Hgb := Lib.hid hgb; clear hgb
          cases hlb : isLetZ ((s[n]'hE).toNat : Int) with
          | true =>
            rw [hlb] at cl
            have Cl := Lib.hid cl; clear cl
            have Hlb := Lib.hid hlb; clear hlb
            have hv : numberL s.data.toList = (0, 0, 22) := by
              rw [HN.out, if_neg Hb0.out, HBd.out, HEv.out]
              have h1 : isLetB (s.data.toList.getD (n) 0) = true := by rw [Hgb.out]; exact Hlb.out
              simp only [h1, decide_eq_true hE, Bool.true_or, Bool.true_and, if_true]
            have HV := Lib.hid hv; clear hv
            go_enter Tryd.func69, Tryd.ntmps69
            go_wp2_with fail
            refine (Cd.out _).mono ?_; rintro e w1 ⟨rfl, rfl⟩
            go_wp2_with fail
            refine (Cd2.out _).mono ?_; rintro e w1 ⟨rfl, rfl⟩
            go_wp2_with fail
            refine (Cl.out _).mono ?_; rintro e w1 ⟨rfl, rfl⟩
            go_wp2
            refine bodyPost_ret (v := .tuple #[.agg #[.int .i64 0, .string ⟨#[]⟩, .int .i64 0], .int .i64 22]) ?_ rfl ⟨by rw [HV.out]; rfl, ?_⟩
            · simp [results, Tryd.results69, go_sem]
            · exact below_two w _ _
          | false =>
            rw [hlb] at cl
            have Cl := Lib.hid cl; clear cl
            have Hlb := Lib.hid hlb; clear hlb
            by_cases h95 : (s[n]'hE).toNat = 95
            · have e95 : (((s[n]'hE).toNat : Int) == 95) = true := by rw [h95]; rfl
              have H95 := Lib.hid h95; clear h95
              have hv : numberL s.data.toList = (0, 0, 22) := by
                rw [HN.out, if_neg Hb0.out, HBd.out, HEv.out]
                have h1 : (s.data.toList.getD (n) 0).toNat = 95 := by rw [Hgb.out]; exact H95.out
                simp only [h1, decide_eq_true hE, decide_true, Bool.or_true, Bool.true_and, if_true]
              have HV := Lib.hid hv; clear hv
              go_enter Tryd.func69, Tryd.ntmps69
              go_wp2_with fail
              refine (Cd.out _).mono ?_; rintro e w1 ⟨rfl, rfl⟩
              go_wp2_with fail
              refine (Cd2.out _).mono ?_; rintro e w1 ⟨rfl, rfl⟩
              go_wp2_with fail
              refine (Cl.out _).mono ?_; rintro e w1 ⟨rfl, rfl⟩
              go_wp2
              refine bodyPost_ret (v := .tuple #[.agg #[.int .i64 0, .string ⟨#[]⟩, .int .i64 0], .int .i64 22]) ?_ rfl ⟨by rw [HV.out]; rfl, ?_⟩
              · simp [results, Tryd.results69, go_sem]
              · exact below_two w _ _
            · have e95 : (((s[n]'hE).toNat : Int) == 95) = false := by simp; omega
              have H95 := Lib.hid h95; clear h95
              have hv : numberL s.data.toList = (2, n, 0) := by
                rw [HN.out, if_neg Hb0.out, HBd.out, HEv.out]
                have h1 : ¬ (s.data.toList.getD (n) 0).toNat = 95 := by rw [Hgb.out]; exact H95.out
                have h2 : isLetB (s.data.toList.getD (n) 0) = false := by rw [Hgb.out]; exact Hlb.out
                simp only [h2, decide_eq_true hE, decide_eq_false h1, Bool.or_false, Bool.and_false, Bool.false_eq_true, if_false]
              have HV := Lib.hid hv; clear hv
              go_enter Tryd.func69, Tryd.ntmps69
              go_wp2_with fail
              refine (Cd.out _).mono ?_; rintro e w1 ⟨rfl, rfl⟩
              go_wp2_with fail
              refine (Cd2.out _).mono ?_; rintro e w1 ⟨rfl, rfl⟩
              go_wp2_with fail
              refine (Cl.out _).mono ?_; rintro e w1 ⟨rfl, rfl⟩
              go_wp2
              refine bodyPost_ret (v := .tuple #[.agg #[.int .i64 ((2 : Nat) : Int), .string (s.extract 0 (n)), .int .i64 a], .int .i64 0]) ?_ rfl ⟨by rw [HV.out]; rfl, ?_⟩
              · simp [results, Tryd.results69, go_sem]
              · exact below_two w _ _
      · have e46 : (((s[n]'hE).toNat : Int) == 46) = false := by simp; omega
        have hEv : numEndS s.data.toList = (2, n) := by
          rw [HE.out, if_neg]
          rw [HDt.out, Hgn.out, decide_eq_false h46]; simp
        have HEv := Lib.hid hEv; clear hEv h46
        have cl := fun w => refLetter_any ((s[n]'hE).toNat : Int) w
        have hgb := getD_byte s (n) hE
        have Hgb := Lib.hid hgb; clear hgb
        cases hlb : isLetZ ((s[n]'hE).toNat : Int) with
        | true =>
          rw [hlb] at cl
          have Cl := Lib.hid cl; clear cl
          have Hlb := Lib.hid hlb; clear hlb
          have hv : numberL s.data.toList = (0, 0, 22) := by
            rw [HN.out, if_neg Hb0.out, HBd.out, HEv.out]
            have h1 : isLetB (s.data.toList.getD (n) 0) = true := by rw [Hgb.out]; exact Hlb.out
            simp only [h1, decide_eq_true hE, Bool.true_or, Bool.true_and, if_true]
          have HV := Lib.hid hv; clear hv
          go_enter Tryd.func69, Tryd.ntmps69
          go_wp2_with fail
          refine (Cd.out _).mono ?_; rintro e w1 ⟨rfl, rfl⟩
          go_wp2_with fail
          refine (Cl.out _).mono ?_; rintro e w1 ⟨rfl, rfl⟩
          go_wp2
          refine bodyPost_ret (v := .tuple #[.agg #[.int .i64 0, .string ⟨#[]⟩, .int .i64 0], .int .i64 22]) ?_ rfl ⟨by rw [HV.out]; rfl, ?_⟩
          · simp [results, Tryd.results69, go_sem]
          · exact below_two w _ _
        | false =>
          rw [hlb] at cl
          have Cl := Lib.hid cl; clear cl
          have Hlb := Lib.hid hlb; clear hlb
          by_cases h95 : (s[n]'hE).toNat = 95
          · have e95 : (((s[n]'hE).toNat : Int) == 95) = true := by rw [h95]; rfl
            have H95 := Lib.hid h95; clear h95
            have hv : numberL s.data.toList = (0, 0, 22) := by
              rw [HN.out, if_neg Hb0.out, HBd.out, HEv.out]
              have h1 : (s.data.toList.getD (n) 0).toNat = 95 := by rw [Hgb.out]; exact H95.out
              simp only [h1, decide_eq_true hE, decide_true, Bool.or_true, Bool.true_and, if_true]
            have HV := Lib.hid hv; clear hv
            go_enter Tryd.func69, Tryd.ntmps69
            go_wp2_with fail
            refine (Cd.out _).mono ?_; rintro e w1 ⟨rfl, rfl⟩
            go_wp2_with fail
            refine (Cl.out _).mono ?_; rintro e w1 ⟨rfl, rfl⟩
            go_wp2
            refine bodyPost_ret (v := .tuple #[.agg #[.int .i64 0, .string ⟨#[]⟩, .int .i64 0], .int .i64 22]) ?_ rfl ⟨by rw [HV.out]; rfl, ?_⟩
            · simp [results, Tryd.results69, go_sem]
            · exact below_two w _ _
          · have e95 : (((s[n]'hE).toNat : Int) == 95) = false := by simp; omega
            have H95 := Lib.hid h95; clear h95
            have hv : numberL s.data.toList = (2, n, 0) := by
              rw [HN.out, if_neg Hb0.out, HBd.out, HEv.out]
              have h1 : ¬ (s.data.toList.getD (n) 0).toNat = 95 := by rw [Hgb.out]; exact H95.out
              have h2 : isLetB (s.data.toList.getD (n) 0) = false := by rw [Hgb.out]; exact Hlb.out
              simp only [h2, decide_eq_true hE, decide_eq_false h1, Bool.or_false, Bool.and_false, Bool.false_eq_true, if_false]
            have HV := Lib.hid hv; clear hv
            go_enter Tryd.func69, Tryd.ntmps69
            go_wp2_with fail
            refine (Cd.out _).mono ?_; rintro e w1 ⟨rfl, rfl⟩
            go_wp2_with fail
            refine (Cl.out _).mono ?_; rintro e w1 ⟨rfl, rfl⟩
            go_wp2
            refine bodyPost_ret (v := .tuple #[.agg #[.int .i64 ((2 : Nat) : Int), .string (s.extract 0 (n)), .int .i64 a], .int .i64 0]) ?_ rfl ⟨by rw [HV.out]; rfl, ?_⟩
            · simp [results, Tryd.results69, go_sem]
            · exact below_two w _ _
    · have dn : decide ((n : Int) < s.size) = false := decide_eq_false (by omega)
      have dn' : decide (n < s.size) = false := decide_eq_false hE
      have hEv : numEndS s.data.toList = (2, n) := by
        rw [HE.out, if_neg]
        rw [HDt.out, decide_eq_false hE]; simp
      have HEv := Lib.hid hEv; clear hEv
      have hv : numberL s.data.toList = (2, n, 0) := by
        rw [HN.out, if_neg Hb0.out, HBd.out, HEv.out]
        simp only [decide_eq_false hE, Bool.false_and, Bool.false_eq_true, if_false]
      have HV := Lib.hid hv; clear hv
      go_enter Tryd.func69, Tryd.ntmps69
      go_wp2_with fail
      refine (Cd.out _).mono ?_; rintro e w1 ⟨rfl, rfl⟩
      go_wp2
      refine bodyPost_ret (v := .tuple #[.agg #[.int .i64 ((2 : Nat) : Int), .string (s.extract 0 (n)), .int .i64 a], .int .i64 0]) ?_ rfl ⟨by rw [HV.out]; rfl, ?_⟩
      · simp [results, Tryd.results69, go_sem]
      · exact below_two w _ _
end Go.Proofs.YtokdoklkaojheaaDoor

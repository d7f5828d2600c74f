import Derived.Test.YtokdoklkaojheaaDoorWo
namespace Go.Proofs.YtokdoklkaojheaaDoor
open Go.RowKit

def numRest (l : List UInt8) : List UInt8 := Lib.trimPrefix (l.drop (tw isDigB l)) [46]
def numDot (l : List UInt8) : Bool := Lib.hasPrefix (l.drop (tw isDigB l)) [46]
def numEnd (l : List UInt8) : Nat × Nat :=
  if numDot l = true ∧ 0 < tw isDigB (numRest l) then (3, tw isDigB l + 1 + tw isDigB (numRest l)) else (2, tw isDigB l)
def numR (l : List UInt8) : Nat × Nat × Int :=
  if tw isDigB l = 0 then (0, 0, 0)
  else if (1 < tw isDigB l ∧ (l.getD 0 0).toNat = 48) ∨ 0 < tw isWordB (l.drop (numEnd l).2) then (0, 0, 22)
  else ((numEnd l).1, (numEnd l).2, 0)

theorem numEnd_le (l : List UInt8) : (numEnd l).2 ≤ l.length := by
  unfold numEnd
  have h1 := tw_le isDigB l
  split
  · rename_i h
    have h2 := hasPrefix_len h.1
    have h3 := tw_le isDigB (numRest l)
    have h5 : Lib.hasPrefix (l.drop (tw isDigB l)) [46] = true := h.1
    have h4 : (numRest l).length = l.length - tw isDigB l - 1 := by
      unfold numRest Lib.trimPrefix; rw [if_pos h5]; simp; omega
    simp at h2 ⊢; omega
  · exact h1

set_option maxHeartbeats 800000 in
set_option maxRecDepth 100000 in
theorem num_zero (s : ByteArray) (kb sb : Nat) (w : World) (hs : s.size ≤ 65536) (h : tw isDigB s.data.toList = 0) :
    Calls Tryd.prog 97 #[.agg #[.map (some kb), .map (some sb)], .string s] w fun e w' => e = .returned (rdV s (0, 0, 0)) ∧ Below w.heap.size w w' := by
  have cd := fun w => preDig s w (by omega)
  rw [h] at cd
  have Cd := Lib.hid cd
  clear cd h
  go_enter Tryd.func97, Tryd.ntmps97
  go_wp2_with fail
  refine (Cd.out _).mono ?_; rintro e w1 ⟨rfl, hb⟩
  obtain ⟨hc, hf⟩ := bcell hb
  have hz : w.heap.size + 1 < w1.heap.size := by have := hb.size; simp at this; omega
  have Hb := Lib.hid hb; clear hb
  go_wp2
  refine bodyPost_ret (v := rdV s (0, 0, 0)) ?_ rfl ⟨rfl, ?_⟩
  · simp [results, Tryd.results97, go_sem, hc, hz]
    simp [rdV, plV, extract_zero]; rfl
  · exact below_pl (below_call Hb.out) (by omega) _ _ _ _

set_option maxHeartbeats 800000 in
set_option maxRecDepth 100000 in
theorem num_Ax (s : ByteArray) (kb sb : Nat) (w : World) (hs : s.size ≤ 65536) (n : Nat) (hn1 : 1 ≤ n) (hnl : n ≤ s.size) (hp0 : 0 < s.size) (cd : ∀ w, Calls Tryd.prog 99 #[.string s, .func (.func 114) #[] #[]] w fun e w' => e = .returned (.int .i64 n) ∧ Below w.heap.size w w') (D : ByteArray) (cc : ∀ w, Calls Tryd.prog 115 #[.string (s.extract n s.size), .string ⟨#[46]⟩] w fun e w' => e = .returned (.tuple #[.string D, .bool false]) ∧ w = w') (hn2 : 1 < n) (h48 : (((s[0]'hp0).toNat : Int) == 48) = true) :
    Calls Tryd.prog 97 #[.agg #[.map (some kb), .map (some sb)], .string s] w fun e w' => e = .returned (rdV s (0, 0, 22)) ∧ Below w.heap.size w w' := by
  have d0 : ((n : Int) == 0) = false := by simp; omega
  have d1 : decide ((1 : Int) < n) = true := by simp; omega
  have d1' : decide (1 < n) = true := by simp; omega
  have Cd := Lib.hid cd; clear cd
  have Cc := Lib.hid cc; clear cc
  go_enter Tryd.func97, Tryd.ntmps97
  go_wp2_with fail
  refine (Cd.out _).mono ?_; rintro e w1 ⟨rfl, hb1⟩
  have Hg1 := Lib.hid hb1; clear hb1
  go_wp2_with fail
  refine (Cc.out _).mono ?_; rintro e w9 ⟨rfl, rfl⟩
  obtain ⟨hc, hf⟩ := bcell Hg1.out
  have hz : w.heap.size + 1 < w1.heap.size := by have := Hg1.out.size; simp at this; omega
  go_wp2
  refine bodyPost_ret (v := rdV s (0, 0, 22)) ?_ rfl ⟨rfl, ?_⟩
  · simp [results, Tryd.results97, go_sem, hc, hz]
    simp [rdV, plV, extract_zero] <;> rfl
  · exact below_pl (below_call Hg1.out) (by omega) _ _ _ _

set_option maxHeartbeats 800000 in
set_option maxRecDepth 100000 in
theorem num_Ay1 (s : ByteArray) (kb sb : Nat) (w : World) (hs : s.size ≤ 65536) (n : Nat) (hn1 : 1 ≤ n) (hnl : n ≤ s.size) (hp0 : 0 < s.size) (cd : ∀ w, Calls Tryd.prog 99 #[.string s, .func (.func 114) #[] #[]] w fun e w' => e = .returned (.int .i64 n) ∧ Below w.heap.size w w') (D : ByteArray) (cc : ∀ w, Calls Tryd.prog 115 #[.string (s.extract n s.size), .string ⟨#[46]⟩] w fun e w' => e = .returned (.tuple #[.string D, .bool false]) ∧ w = w') (hn2 : n ≤ 1) (t : Nat) (ht1 : 1 ≤ t) (htl : t ≤ s.size) (ct : ∀ w, Calls Tryd.prog 99 #[.string (s.extract n s.size), .func (.func 116) #[] #[]] w fun e w' => e = .returned (.int .i64 (t : Nat)) ∧ Below w.heap.size w w') :
    Calls Tryd.prog 97 #[.agg #[.map (some kb), .map (some sb)], .string s] w fun e w' => e = .returned (rdV s (0, 0, 22)) ∧ Below w.heap.size w w' := by
  have d0 : ((n : Int) == 0) = false := by simp; omega
  have d1 : decide ((1 : Int) < n) = false := by simp; omega
  have d1' : decide (1 < n) = false := by simp; omega
  have d3 : decide ((0 : Int) < t) = true := by simp; omega
  have d3' : decide (0 < t) = true := by simp; omega
  have Cd := Lib.hid cd; clear cd
  have Cc := Lib.hid cc; clear cc
  have Ct := Lib.hid ct; clear ct
  go_enter Tryd.func97, Tryd.ntmps97
  go_wp2_with fail
  refine (Cd.out _).mono ?_; rintro e w1 ⟨rfl, hb1⟩
  have Hg1 := Lib.hid hb1; clear hb1
  go_wp2_with fail
  refine (Cc.out _).mono ?_; rintro e w9 ⟨rfl, rfl⟩
  go_wp2_with fail
  refine (Ct.out _).mono ?_; rintro e w2 ⟨rfl, hb2⟩
  have hg2 := Hg1.out.trans (hb2.mono Hg1.out.size)
  have Hg2 := Lib.hid hg2; clear hb2 hg2
  obtain ⟨hc, hf⟩ := bcell Hg2.out
  have hz : w.heap.size + 1 < w2.heap.size := by have := Hg2.out.size; simp at this; omega
  go_wp2
  refine bodyPost_ret (v := rdV s (0, 0, 22)) ?_ rfl ⟨rfl, ?_⟩
  · simp [results, Tryd.results97, go_sem, hc, hz]
    simp [rdV, plV, extract_zero] <;> rfl
  · exact below_pl (below_call Hg2.out) (by omega) _ _ _ _

set_option maxHeartbeats 800000 in
set_option maxRecDepth 100000 in
theorem num_Ay2 (s : ByteArray) (kb sb : Nat) (w : World) (hs : s.size ≤ 65536) (n : Nat) (hn1 : 1 ≤ n) (hnl : n ≤ s.size) (hp0 : 0 < s.size) (cd : ∀ w, Calls Tryd.prog 99 #[.string s, .func (.func 114) #[] #[]] w fun e w' => e = .returned (.int .i64 n) ∧ Below w.heap.size w w') (D : ByteArray) (cc : ∀ w, Calls Tryd.prog 115 #[.string (s.extract n s.size), .string ⟨#[46]⟩] w fun e w' => e = .returned (.tuple #[.string D, .bool false]) ∧ w = w') (hn2 : 1 < n) (h48 : (((s[0]'hp0).toNat : Int) == 48) = false) (t : Nat) (ht1 : 1 ≤ t) (htl : t ≤ s.size) (ct : ∀ w, Calls Tryd.prog 99 #[.string (s.extract n s.size), .func (.func 116) #[] #[]] w fun e w' => e = .returned (.int .i64 (t : Nat)) ∧ Below w.heap.size w w') :
    Calls Tryd.prog 97 #[.agg #[.map (some kb), .map (some sb)], .string s] w fun e w' => e = .returned (rdV s (0, 0, 22)) ∧ Below w.heap.size w w' := by
  have d0 : ((n : Int) == 0) = false := by simp; omega
  have d1 : decide ((1 : Int) < n) = true := by simp; omega
  have d1' : decide (1 < n) = true := by simp; omega
  have d3 : decide ((0 : Int) < t) = true := by simp; omega
  have d3' : decide (0 < t) = true := by simp; omega
  have Cd := Lib.hid cd; clear cd
  have Cc := Lib.hid cc; clear cc
  have Ct := Lib.hid ct; clear ct
  go_enter Tryd.func97, Tryd.ntmps97
  go_wp2_with fail
  refine (Cd.out _).mono ?_; rintro e w1 ⟨rfl, hb1⟩
  have Hg1 := Lib.hid hb1; clear hb1
  go_wp2_with fail
  refine (Cc.out _).mono ?_; rintro e w9 ⟨rfl, rfl⟩
  go_wp2_with fail
  refine (Ct.out _).mono ?_; rintro e w2 ⟨rfl, hb2⟩
  have hg2 := Hg1.out.trans (hb2.mono Hg1.out.size)
  have Hg2 := Lib.hid hg2; clear hb2 hg2
  obtain ⟨hc, hf⟩ := bcell Hg2.out
  have hz : w.heap.size + 1 < w2.heap.size := by have := Hg2.out.size; simp at this; omega
  go_wp2
  refine bodyPost_ret (v := rdV s (0, 0, 22)) ?_ rfl ⟨rfl, ?_⟩
  · simp [results, Tryd.results97, go_sem, hc, hz]
    simp [rdV, plV, extract_zero] <;> rfl
  · exact below_pl (below_call Hg2.out) (by omega) _ _ _ _

set_option maxHeartbeats 800000 in
set_option maxRecDepth 100000 in
theorem num_Az1 (s : ByteArray) (kb sb : Nat) (w : World) (hs : s.size ≤ 65536) (n : Nat) (hn1 : 1 ≤ n) (hnl : n ≤ s.size) (hp0 : 0 < s.size) (cd : ∀ w, Calls Tryd.prog 99 #[.string s, .func (.func 114) #[] #[]] w fun e w' => e = .returned (.int .i64 n) ∧ Below w.heap.size w w') (D : ByteArray) (cc : ∀ w, Calls Tryd.prog 115 #[.string (s.extract n s.size), .string ⟨#[46]⟩] w fun e w' => e = .returned (.tuple #[.string D, .bool false]) ∧ w = w') (hn2 : n ≤ 1) (ct : ∀ w, Calls Tryd.prog 99 #[.string (s.extract n s.size), .func (.func 116) #[] #[]] w fun e w' => e = .returned (.int .i64 (0 : Nat)) ∧ Below w.heap.size w w') :
    Calls Tryd.prog 97 #[.agg #[.map (some kb), .map (some sb)], .string s] w fun e w' => e = .returned (rdV s (2, n, 0)) ∧ Below w.heap.size w w' := by
  have d0 : ((n : Int) == 0) = false := by simp; omega
  have d1 : decide ((1 : Int) < n) = false := by simp; omega
  have d1' : decide (1 < n) = false := by simp; omega
  have Cd := Lib.hid cd; clear cd
  have Cc := Lib.hid cc; clear cc
  have Ct := Lib.hid ct; clear ct
  go_enter Tryd.func97, Tryd.ntmps97
  go_wp2_with fail
  refine (Cd.out _).mono ?_; rintro e w1 ⟨rfl, hb1⟩
  have Hg1 := Lib.hid hb1; clear hb1
  go_wp2_with fail
  refine (Cc.out _).mono ?_; rintro e w9 ⟨rfl, rfl⟩
  go_wp2_with fail
  refine (Ct.out _).mono ?_; rintro e w2 ⟨rfl, hb2⟩
  have hg2 := Hg1.out.trans (hb2.mono Hg1.out.size)
  have Hg2 := Lib.hid hg2; clear hb2 hg2
  go_wp2_with fail
  refine (place_any s 2 n _ (by omega) (by omega)).mono ?_; rintro e w3 ⟨rfl, hb3⟩
  simp only [plV]
  have hg3 := Hg2.out.trans (hb3.mono Hg2.out.size)
  have Hg3 := Lib.hid hg3; clear hb3 hg3
  obtain ⟨hc, hf⟩ := bcell Hg3.out
  have hz : w.heap.size + 1 < w3.heap.size := by have := Hg3.out.size; simp at this; omega
  go_wp2
  refine bodyPost_ret (v := rdV s (2, n, 0)) ?_ rfl ⟨rfl, ?_⟩
  · simp [results, Tryd.results97, go_sem, hc, hz]
    simp [rdV, plV, extract_zero] <;> rfl
  · exact below_pl (below_call Hg3.out) (by omega) _ _ _ _

set_option maxHeartbeats 800000 in
set_option maxRecDepth 100000 in
theorem num_Az2 (s : ByteArray) (kb sb : Nat) (w : World) (hs : s.size ≤ 65536) (n : Nat) (hn1 : 1 ≤ n) (hnl : n ≤ s.size) (hp0 : 0 < s.size) (cd : ∀ w, Calls Tryd.prog 99 #[.string s, .func (.func 114) #[] #[]] w fun e w' => e = .returned (.int .i64 n) ∧ Below w.heap.size w w') (D : ByteArray) (cc : ∀ w, Calls Tryd.prog 115 #[.string (s.extract n s.size), .string ⟨#[46]⟩] w fun e w' => e = .returned (.tuple #[.string D, .bool false]) ∧ w = w') (hn2 : 1 < n) (h48 : (((s[0]'hp0).toNat : Int) == 48) = false) (ct : ∀ w, Calls Tryd.prog 99 #[.string (s.extract n s.size), .func (.func 116) #[] #[]] w fun e w' => e = .returned (.int .i64 (0 : Nat)) ∧ Below w.heap.size w w') :
    Calls Tryd.prog 97 #[.agg #[.map (some kb), .map (some sb)], .string s] w fun e w' => e = .returned (rdV s (2, n, 0)) ∧ Below w.heap.size w w' := by
  have d0 : ((n : Int) == 0) = false := by simp; omega
  have d1 : decide ((1 : Int) < n) = true := by simp; omega
  have d1' : decide (1 < n) = true := by simp; omega
  have Cd := Lib.hid cd; clear cd
  have Cc := Lib.hid cc; clear cc
  have Ct := Lib.hid ct; clear ct
  go_enter Tryd.func97, Tryd.ntmps97
  go_wp2_with fail
  refine (Cd.out _).mono ?_; rintro e w1 ⟨rfl, hb1⟩
  have Hg1 := Lib.hid hb1; clear hb1
  go_wp2_with fail
  refine (Cc.out _).mono ?_; rintro e w9 ⟨rfl, rfl⟩
  go_wp2_with fail
  refine (Ct.out _).mono ?_; rintro e w2 ⟨rfl, hb2⟩
  have hg2 := Hg1.out.trans (hb2.mono Hg1.out.size)
  have Hg2 := Lib.hid hg2; clear hb2 hg2
  go_wp2_with fail
  refine (place_any s 2 n _ (by omega) (by omega)).mono ?_; rintro e w3 ⟨rfl, hb3⟩
  simp only [plV]
  have hg3 := Hg2.out.trans (hb3.mono Hg2.out.size)
  have Hg3 := Lib.hid hg3; clear hb3 hg3
  obtain ⟨hc, hf⟩ := bcell Hg3.out
  have hz : w.heap.size + 1 < w3.heap.size := by have := Hg3.out.size; simp at this; omega
  go_wp2
  refine bodyPost_ret (v := rdV s (2, n, 0)) ?_ rfl ⟨rfl, ?_⟩
  · simp [results, Tryd.results97, go_sem, hc, hz]
    simp [rdV, plV, extract_zero] <;> rfl
  · exact below_pl (below_call Hg3.out) (by omega) _ _ _ _

set_option maxHeartbeats 800000 in
set_option maxRecDepth 100000 in
theorem num_Bx (s : ByteArray) (kb sb : Nat) (w : World) (hs : s.size ≤ 65536) (n : Nat) (hn1 : 1 ≤ n) (hnl : n ≤ s.size) (hp0 : 0 < s.size) (cd : ∀ w, Calls Tryd.prog 99 #[.string s, .func (.func 114) #[] #[]] w fun e w' => e = .returned (.int .i64 n) ∧ Below w.heap.size w w') (D : ByteArray) (cc : ∀ w, Calls Tryd.prog 115 #[.string (s.extract n s.size), .string ⟨#[46]⟩] w fun e w' => e = .returned (.tuple #[.string D, .bool true]) ∧ w = w') (cr : ∀ w, Calls Tryd.prog 99 #[.string D, .func (.func 114) #[] #[]] w fun e w' => e = .returned (.int .i64 (0 : Nat)) ∧ Below w.heap.size w w') (hn2 : 1 < n) (h48 : (((s[0]'hp0).toNat : Int) == 48) = true) :
    Calls Tryd.prog 97 #[.agg #[.map (some kb), .map (some sb)], .string s] w fun e w' => e = .returned (rdV s (0, 0, 22)) ∧ Below w.heap.size w w' := by
  have d0 : ((n : Int) == 0) = false := by simp; omega
  have d1 : decide ((1 : Int) < n) = true := by simp; omega
  have d1' : decide (1 < n) = true := by simp; omega
  have Cd := Lib.hid cd; clear cd
  have Cc := Lib.hid cc; clear cc
  have Cr := Lib.hid cr; clear cr
  go_enter Tryd.func97, Tryd.ntmps97
  go_wp2_with fail
  refine (Cd.out _).mono ?_; rintro e w1 ⟨rfl, hb1⟩
  have Hg1 := Lib.hid hb1; clear hb1
  go_wp2_with fail
  refine (Cc.out _).mono ?_; rintro e w9 ⟨rfl, rfl⟩
  go_wp2_with fail
  refine (Cr.out _).mono ?_; rintro e w2 ⟨rfl, hb2⟩
  have hg2 := Hg1.out.trans (hb2.mono Hg1.out.size)
  have Hg2 := Lib.hid hg2; clear hb2 hg2
  obtain ⟨hc, hf⟩ := bcell Hg2.out
  have hz : w.heap.size + 1 < w2.heap.size := by have := Hg2.out.size; simp at this; omega
  go_wp2
  refine bodyPost_ret (v := rdV s (0, 0, 22)) ?_ rfl ⟨rfl, ?_⟩
  · simp [results, Tryd.results97, go_sem, hc, hz]
    simp [rdV, plV, extract_zero] <;> rfl
  · exact below_pl (below_call Hg2.out) (by omega) _ _ _ _

set_option maxHeartbeats 800000 in
set_option maxRecDepth 100000 in
theorem num_By1 (s : ByteArray) (kb sb : Nat) (w : World) (hs : s.size ≤ 65536) (n : Nat) (hn1 : 1 ≤ n) (hnl : n ≤ s.size) (hp0 : 0 < s.size) (cd : ∀ w, Calls Tryd.prog 99 #[.string s, .func (.func 114) #[] #[]] w fun e w' => e = .returned (.int .i64 n) ∧ Below w.heap.size w w') (D : ByteArray) (cc : ∀ w, Calls Tryd.prog 115 #[.string (s.extract n s.size), .string ⟨#[46]⟩] w fun e w' => e = .returned (.tuple #[.string D, .bool true]) ∧ w = w') (cr : ∀ w, Calls Tryd.prog 99 #[.string D, .func (.func 114) #[] #[]] w fun e w' => e = .returned (.int .i64 (0 : Nat)) ∧ Below w.heap.size w w') (hn2 : n ≤ 1) (t : Nat) (ht1 : 1 ≤ t) (htl : t ≤ s.size) (ct : ∀ w, Calls Tryd.prog 99 #[.string (s.extract n s.size), .func (.func 116) #[] #[]] w fun e w' => e = .returned (.int .i64 (t : Nat)) ∧ Below w.heap.size w w') :
    Calls Tryd.prog 97 #[.agg #[.map (some kb), .map (some sb)], .string s] w fun e w' => e = .returned (rdV s (0, 0, 22)) ∧ Below w.heap.size w w' := by
  have d0 : ((n : Int) == 0) = false := by simp; omega
  have d1 : decide ((1 : Int) < n) = false := by simp; omega
  have d1' : decide (1 < n) = false := by simp; omega
  have d3 : decide ((0 : Int) < t) = true := by simp; omega
  have d3' : decide (0 < t) = true := by simp; omega
  have Cd := Lib.hid cd; clear cd
  have Cc := Lib.hid cc; clear cc
  have Cr := Lib.hid cr; clear cr
  have Ct := Lib.hid ct; clear ct
  go_enter Tryd.func97, Tryd.ntmps97
  go_wp2_with fail
  refine (Cd.out _).mono ?_; rintro e w1 ⟨rfl, hb1⟩
  have Hg1 := Lib.hid hb1; clear hb1
  go_wp2_with fail
  refine (Cc.out _).mono ?_; rintro e w9 ⟨rfl, rfl⟩
  go_wp2_with fail
  refine (Cr.out _).mono ?_; rintro e w2 ⟨rfl, hb2⟩
  have hg2 := Hg1.out.trans (hb2.mono Hg1.out.size)
  have Hg2 := Lib.hid hg2; clear hb2 hg2
  go_wp2_with fail
  refine (Ct.out _).mono ?_; rintro e w3 ⟨rfl, hb3⟩
  have hg3 := Hg2.out.trans (hb3.mono Hg2.out.size)
  have Hg3 := Lib.hid hg3; clear hb3 hg3
  obtain ⟨hc, hf⟩ := bcell Hg3.out
  have hz : w.heap.size + 1 < w3.heap.size := by have := Hg3.out.size; simp at this; omega
  go_wp2
  refine bodyPost_ret (v := rdV s (0, 0, 22)) ?_ rfl ⟨rfl, ?_⟩
  · simp [results, Tryd.results97, go_sem, hc, hz]
    simp [rdV, plV, extract_zero] <;> rfl
  · exact below_pl (below_call Hg3.out) (by omega) _ _ _ _

set_option maxHeartbeats 800000 in
set_option maxRecDepth 100000 in
theorem num_By2 (s : ByteArray) (kb sb : Nat) (w : World) (hs : s.size ≤ 65536) (n : Nat) (hn1 : 1 ≤ n) (hnl : n ≤ s.size) (hp0 : 0 < s.size) (cd : ∀ w, Calls Tryd.prog 99 #[.string s, .func (.func 114) #[] #[]] w fun e w' => e = .returned (.int .i64 n) ∧ Below w.heap.size w w') (D : ByteArray) (cc : ∀ w, Calls Tryd.prog 115 #[.string (s.extract n s.size), .string ⟨#[46]⟩] w fun e w' => e = .returned (.tuple #[.string D, .bool true]) ∧ w = w') (cr : ∀ w, Calls Tryd.prog 99 #[.string D, .func (.func 114) #[] #[]] w fun e w' => e = .returned (.int .i64 (0 : Nat)) ∧ Below w.heap.size w w') (hn2 : 1 < n) (h48 : (((s[0]'hp0).toNat : Int) == 48) = false) (t : Nat) (ht1 : 1 ≤ t) (htl : t ≤ s.size) (ct : ∀ w, Calls Tryd.prog 99 #[.string (s.extract n s.size), .func (.func 116) #[] #[]] w fun e w' => e = .returned (.int .i64 (t : Nat)) ∧ Below w.heap.size w w') :
    Calls Tryd.prog 97 #[.agg #[.map (some kb), .map (some sb)], .string s] w fun e w' => e = .returned (rdV s (0, 0, 22)) ∧ Below w.heap.size w w' := by
  have d0 : ((n : Int) == 0) = false := by simp; omega
  have d1 : decide ((1 : Int) < n) = true := by simp; omega
  have d1' : decide (1 < n) = true := by simp; omega
  have d3 : decide ((0 : Int) < t) = true := by simp; omega
  have d3' : decide (0 < t) = true := by simp; omega
  have Cd := Lib.hid cd; clear cd
  have Cc := Lib.hid cc; clear cc
  have Cr := Lib.hid cr; clear cr
  have Ct := Lib.hid ct; clear ct
  go_enter Tryd.func97, Tryd.ntmps97
  go_wp2_with fail
  refine (Cd.out _).mono ?_; rintro e w1 ⟨rfl, hb1⟩
  have Hg1 := Lib.hid hb1; clear hb1
  go_wp2_with fail
  refine (Cc.out _).mono ?_; rintro e w9 ⟨rfl, rfl⟩
  go_wp2_with fail
  refine (Cr.out _).mono ?_; rintro e w2 ⟨rfl, hb2⟩
  have hg2 := Hg1.out.trans (hb2.mono Hg1.out.size)
  have Hg2 := Lib.hid hg2; clear hb2 hg2
  go_wp2_with fail
  refine (Ct.out _).mono ?_; rintro e w3 ⟨rfl, hb3⟩
  have hg3 := Hg2.out.trans (hb3.mono Hg2.out.size)
  have Hg3 := Lib.hid hg3; clear hb3 hg3
  obtain ⟨hc, hf⟩ := bcell Hg3.out
  have hz : w.heap.size + 1 < w3.heap.size := by have := Hg3.out.size; simp at this; omega
  go_wp2
  refine bodyPost_ret (v := rdV s (0, 0, 22)) ?_ rfl ⟨rfl, ?_⟩
  · simp [results, Tryd.results97, go_sem, hc, hz]
    simp [rdV, plV, extract_zero] <;> rfl
  · exact below_pl (below_call Hg3.out) (by omega) _ _ _ _

set_option maxHeartbeats 800000 in
set_option maxRecDepth 100000 in
theorem num_Bz1 (s : ByteArray) (kb sb : Nat) (w : World) (hs : s.size ≤ 65536) (n : Nat) (hn1 : 1 ≤ n) (hnl : n ≤ s.size) (hp0 : 0 < s.size) (cd : ∀ w, Calls Tryd.prog 99 #[.string s, .func (.func 114) #[] #[]] w fun e w' => e = .returned (.int .i64 n) ∧ Below w.heap.size w w') (D : ByteArray) (cc : ∀ w, Calls Tryd.prog 115 #[.string (s.extract n s.size), .string ⟨#[46]⟩] w fun e w' => e = .returned (.tuple #[.string D, .bool true]) ∧ w = w') (cr : ∀ w, Calls Tryd.prog 99 #[.string D, .func (.func 114) #[] #[]] w fun e w' => e = .returned (.int .i64 (0 : Nat)) ∧ Below w.heap.size w w') (hn2 : n ≤ 1) (ct : ∀ w, Calls Tryd.prog 99 #[.string (s.extract n s.size), .func (.func 116) #[] #[]] w fun e w' => e = .returned (.int .i64 (0 : Nat)) ∧ Below w.heap.size w w') :
    Calls Tryd.prog 97 #[.agg #[.map (some kb), .map (some sb)], .string s] w fun e w' => e = .returned (rdV s (2, n, 0)) ∧ Below w.heap.size w w' := by
  have d0 : ((n : Int) == 0) = false := by simp; omega
  have d1 : decide ((1 : Int) < n) = false := by simp; omega
  have d1' : decide (1 < n) = false := by simp; omega
  have Cd := Lib.hid cd; clear cd
  have Cc := Lib.hid cc; clear cc
  have Cr := Lib.hid cr; clear cr
  have Ct := Lib.hid ct; clear ct
  go_enter Tryd.func97, Tryd.ntmps97
  go_wp2_with fail
  refine (Cd.out _).mono ?_; rintro e w1 ⟨rfl, hb1⟩
  have Hg1 := Lib.hid hb1; clear hb1
  go_wp2_with fail
  refine (Cc.out _).mono ?_; rintro e w9 ⟨rfl, rfl⟩
  go_wp2_with fail
  refine (Cr.out _).mono ?_; rintro e w2 ⟨rfl, hb2⟩
  have hg2 := Hg1.out.trans (hb2.mono Hg1.out.size)
  have Hg2 := Lib.hid hg2; clear hb2 hg2
  go_wp2_with fail
  refine (Ct.out _).mono ?_; rintro e w3 ⟨rfl, hb3⟩
  have hg3 := Hg2.out.trans (hb3.mono Hg2.out.size)
  have Hg3 := Lib.hid hg3; clear hb3 hg3
  go_wp2_with fail
  refine (place_any s 2 n _ (by omega) (by omega)).mono ?_; rintro e w4 ⟨rfl, hb4⟩
  simp only [plV]
  have hg4 := Hg3.out.trans (hb4.mono Hg3.out.size)
  have Hg4 := Lib.hid hg4; clear hb4 hg4
  obtain ⟨hc, hf⟩ := bcell Hg4.out
  have hz : w.heap.size + 1 < w4.heap.size := by have := Hg4.out.size; simp at this; omega
  go_wp2
  refine bodyPost_ret (v := rdV s (2, n, 0)) ?_ rfl ⟨rfl, ?_⟩
  · simp [results, Tryd.results97, go_sem, hc, hz]
    simp [rdV, plV, extract_zero] <;> rfl
  · exact below_pl (below_call Hg4.out) (by omega) _ _ _ _

set_option maxHeartbeats 800000 in
set_option maxRecDepth 100000 in
theorem num_Bz2 (s : ByteArray) (kb sb : Nat) (w : World) (hs : s.size ≤ 65536) (n : Nat) (hn1 : 1 ≤ n) (hnl : n ≤ s.size) (hp0 : 0 < s.size) (cd : ∀ w, Calls Tryd.prog 99 #[.string s, .func (.func 114) #[] #[]] w fun e w' => e = .returned (.int .i64 n) ∧ Below w.heap.size w w') (D : ByteArray) (cc : ∀ w, Calls Tryd.prog 115 #[.string (s.extract n s.size), .string ⟨#[46]⟩] w fun e w' => e = .returned (.tuple #[.string D, .bool true]) ∧ w = w') (cr : ∀ w, Calls Tryd.prog 99 #[.string D, .func (.func 114) #[] #[]] w fun e w' => e = .returned (.int .i64 (0 : Nat)) ∧ Below w.heap.size w w') (hn2 : 1 < n) (h48 : (((s[0]'hp0).toNat : Int) == 48) = false) (ct : ∀ w, Calls Tryd.prog 99 #[.string (s.extract n s.size), .func (.func 116) #[] #[]] w fun e w' => e = .returned (.int .i64 (0 : Nat)) ∧ Below w.heap.size w w') :
    Calls Tryd.prog 97 #[.agg #[.map (some kb), .map (some sb)], .string s] w fun e w' => e = .returned (rdV s (2, n, 0)) ∧ Below w.heap.size w w' := by
  have d0 : ((n : Int) == 0) = false := by simp; omega
  have d1 : decide ((1 : Int) < n) = true := by simp; omega
  have d1' : decide (1 < n) = true := by simp; omega
  have Cd := Lib.hid cd; clear cd
  have Cc := Lib.hid cc; clear cc
  have Cr := Lib.hid cr; clear cr
  have Ct := Lib.hid ct; clear ct
  go_enter Tryd.func97, Tryd.ntmps97
  go_wp2_with fail
  refine (Cd.out _).mono ?_; rintro e w1 ⟨rfl, hb1⟩
  have Hg1 := Lib.hid hb1; clear hb1
  go_wp2_with fail
  refine (Cc.out _).mono ?_; rintro e w9 ⟨rfl, rfl⟩
  go_wp2_with fail
  refine (Cr.out _).mono ?_; rintro e w2 ⟨rfl, hb2⟩
  have hg2 := Hg1.out.trans (hb2.mono Hg1.out.size)
  have Hg2 := Lib.hid hg2; clear hb2 hg2
  go_wp2_with fail
  refine (Ct.out _).mono ?_; rintro e w3 ⟨rfl, hb3⟩
  have hg3 := Hg2.out.trans (hb3.mono Hg2.out.size)
  have Hg3 := Lib.hid hg3; clear hb3 hg3
  go_wp2_with fail
  refine (place_any s 2 n _ (by omega) (by omega)).mono ?_; rintro e w4 ⟨rfl, hb4⟩
  simp only [plV]
  have hg4 := Hg3.out.trans (hb4.mono Hg3.out.size)
  have Hg4 := Lib.hid hg4; clear hb4 hg4
  obtain ⟨hc, hf⟩ := bcell Hg4.out
  have hz : w.heap.size + 1 < w4.heap.size := by have := Hg4.out.size; simp at this; omega
  go_wp2
  refine bodyPost_ret (v := rdV s (2, n, 0)) ?_ rfl ⟨rfl, ?_⟩
  · simp [results, Tryd.results97, go_sem, hc, hz]
    simp [rdV, plV, extract_zero] <;> rfl
  · exact below_pl (below_call Hg4.out) (by omega) _ _ _ _

set_option maxHeartbeats 800000 in
set_option maxRecDepth 100000 in
theorem num_Cx (s : ByteArray) (kb sb : Nat) (w : World) (hs : s.size ≤ 65536) (n : Nat) (hn1 : 1 ≤ n) (hnl : n ≤ s.size) (hp0 : 0 < s.size) (cd : ∀ w, Calls Tryd.prog 99 #[.string s, .func (.func 114) #[] #[]] w fun e w' => e = .returned (.int .i64 n) ∧ Below w.heap.size w w') (D : ByteArray) (cc : ∀ w, Calls Tryd.prog 115 #[.string (s.extract n s.size), .string ⟨#[46]⟩] w fun e w' => e = .returned (.tuple #[.string D, .bool true]) ∧ w = w') (d : Nat) (hd1 : 1 ≤ d) (hdl : n + 1 + d ≤ s.size) (cr : ∀ w, Calls Tryd.prog 99 #[.string D, .func (.func 114) #[] #[]] w fun e w' => e = .returned (.int .i64 (d : Nat)) ∧ Below w.heap.size w w') (hn2 : 1 < n) (h48 : (((s[0]'hp0).toNat : Int) == 48) = true) :
    Calls Tryd.prog 97 #[.agg #[.map (some kb), .map (some sb)], .string s] w fun e w' => e = .returned (rdV s (0, 0, 22)) ∧ Below w.heap.size w w' := by
  have d0 : ((n : Int) == 0) = false := by simp; omega
  have d1 : decide ((1 : Int) < n) = true := by simp; omega
  have d1' : decide (1 < n) = true := by simp; omega
  have d2 : decide ((0 : Int) < d) = true := by simp; omega
  have d2' : decide (0 < d) = true := by simp; omega
  have hi1 : ((n : Int) + 1 + (d : Int)) ≤ (s.size : Int) := by omega
  have Cd := Lib.hid cd; clear cd
  have Cc := Lib.hid cc; clear cc
  have Cr := Lib.hid cr; clear cr
  go_enter Tryd.func97, Tryd.ntmps97
  go_wp2_with fail
  refine (Cd.out _).mono ?_; rintro e w1 ⟨rfl, hb1⟩
  have Hg1 := Lib.hid hb1; clear hb1
  go_wp2_with fail
  refine (Cc.out _).mono ?_; rintro e w9 ⟨rfl, rfl⟩
  go_wp2_with fail
  refine (Cr.out _).mono ?_; rintro e w2 ⟨rfl, hb2⟩
  have hg2 := Hg1.out.trans (hb2.mono Hg1.out.size)
  have Hg2 := Lib.hid hg2; clear hb2 hg2
  go_wp2_with fail
  refine (Cr.out _).mono ?_; rintro e w3 ⟨rfl, hb3⟩
  have hg3 := Hg2.out.trans (hb3.mono Hg2.out.size)
  have Hg3 := Lib.hid hg3; clear hb3 hg3
  obtain ⟨hc, hf⟩ := bcell Hg3.out
  have hz : w.heap.size + 1 < w3.heap.size := by have := Hg3.out.size; simp at this; omega
  go_wp2
  refine bodyPost_ret (v := rdV s (0, 0, 22)) ?_ rfl ⟨rfl, ?_⟩
  · simp [results, Tryd.results97, go_sem, hc, hz]
    simp [rdV, plV, extract_zero] <;> rfl
  · exact below_pl (below_call Hg3.out) (by omega) _ _ _ _

set_option maxHeartbeats 800000 in
set_option maxRecDepth 100000 in
theorem num_Cy1 (s : ByteArray) (kb sb : Nat) (w : World) (hs : s.size ≤ 65536) (n : Nat) (hn1 : 1 ≤ n) (hnl : n ≤ s.size) (hp0 : 0 < s.size) (cd : ∀ w, Calls Tryd.prog 99 #[.string s, .func (.func 114) #[] #[]] w fun e w' => e = .returned (.int .i64 n) ∧ Below w.heap.size w w') (D : ByteArray) (cc : ∀ w, Calls Tryd.prog 115 #[.string (s.extract n s.size), .string ⟨#[46]⟩] w fun e w' => e = .returned (.tuple #[.string D, .bool true]) ∧ w = w') (d : Nat) (hd1 : 1 ≤ d) (hdl : n + 1 + d ≤ s.size) (cr : ∀ w, Calls Tryd.prog 99 #[.string D, .func (.func 114) #[] #[]] w fun e w' => e = .returned (.int .i64 (d : Nat)) ∧ Below w.heap.size w w') (hn2 : n ≤ 1) (t : Nat) (ht1 : 1 ≤ t) (htl : t ≤ s.size) (ct : ∀ w, Calls Tryd.prog 99 #[.string (s.extract (n + 1 + d) s.size), .func (.func 116) #[] #[]] w fun e w' => e = .returned (.int .i64 (t : Nat)) ∧ Below w.heap.size w w') :
    Calls Tryd.prog 97 #[.agg #[.map (some kb), .map (some sb)], .string s] w fun e w' => e = .returned (rdV s (0, 0, 22)) ∧ Below w.heap.size w w' := by
  have d0 : ((n : Int) == 0) = false := by simp; omega
  have d1 : decide ((1 : Int) < n) = false := by simp; omega
  have d1' : decide (1 < n) = false := by simp; omega
  have d2 : decide ((0 : Int) < d) = true := by simp; omega
  have d2' : decide (0 < d) = true := by simp; omega
  have hi1 : ((n : Int) + 1 + (d : Int)) ≤ (s.size : Int) := by omega
  have d3 : decide ((0 : Int) < t) = true := by simp; omega
  have d3' : decide (0 < t) = true := by simp; omega
  have Cd := Lib.hid cd; clear cd
  have Cc := Lib.hid cc; clear cc
  have Cr := Lib.hid cr; clear cr
  have Ct := Lib.hid ct; clear ct
  go_enter Tryd.func97, Tryd.ntmps97
  go_wp2_with fail
  refine (Cd.out _).mono ?_; rintro e w1 ⟨rfl, hb1⟩
  have Hg1 := Lib.hid hb1; clear hb1
  go_wp2_with fail
  refine (Cc.out _).mono ?_; rintro e w9 ⟨rfl, rfl⟩
  go_wp2_with fail
  refine (Cr.out _).mono ?_; rintro e w2 ⟨rfl, hb2⟩
  have hg2 := Hg1.out.trans (hb2.mono Hg1.out.size)
  have Hg2 := Lib.hid hg2; clear hb2 hg2
  go_wp2_with fail
  refine (Cr.out _).mono ?_; rintro e w3 ⟨rfl, hb3⟩
  have hg3 := Hg2.out.trans (hb3.mono Hg2.out.size)
  have Hg3 := Lib.hid hg3; clear hb3 hg3
  go_wp2_with fail
  refine (Ct.out _).mono ?_; rintro e w4 ⟨rfl, hb4⟩
  have hg4 := Hg3.out.trans (hb4.mono Hg3.out.size)
  have Hg4 := Lib.hid hg4; clear hb4 hg4
  obtain ⟨hc, hf⟩ := bcell Hg4.out
  have hz : w.heap.size + 1 < w4.heap.size := by have := Hg4.out.size; simp at this; omega
  go_wp2
  refine bodyPost_ret (v := rdV s (0, 0, 22)) ?_ rfl ⟨rfl, ?_⟩
  · simp [results, Tryd.results97, go_sem, hc, hz]
    simp [rdV, plV, extract_zero] <;> rfl
  · exact below_pl (below_call Hg4.out) (by omega) _ _ _ _

set_option maxHeartbeats 800000 in
set_option maxRecDepth 100000 in
theorem num_Cy2 (s : ByteArray) (kb sb : Nat) (w : World) (hs : s.size ≤ 65536) (n : Nat) (hn1 : 1 ≤ n) (hnl : n ≤ s.size) (hp0 : 0 < s.size) (cd : ∀ w, Calls Tryd.prog 99 #[.string s, .func (.func 114) #[] #[]] w fun e w' => e = .returned (.int .i64 n) ∧ Below w.heap.size w w') (D : ByteArray) (cc : ∀ w, Calls Tryd.prog 115 #[.string (s.extract n s.size), .string ⟨#[46]⟩] w fun e w' => e = .returned (.tuple #[.string D, .bool true]) ∧ w = w') (d : Nat) (hd1 : 1 ≤ d) (hdl : n + 1 + d ≤ s.size) (cr : ∀ w, Calls Tryd.prog 99 #[.string D, .func (.func 114) #[] #[]] w fun e w' => e = .returned (.int .i64 (d : Nat)) ∧ Below w.heap.size w w') (hn2 : 1 < n) (h48 : (((s[0]'hp0).toNat : Int) == 48) = false) (t : Nat) (ht1 : 1 ≤ t) (htl : t ≤ s.size) (ct : ∀ w, Calls Tryd.prog 99 #[.string (s.extract (n + 1 + d) s.size), .func (.func 116) #[] #[]] w fun e w' => e = .returned (.int .i64 (t : Nat)) ∧ Below w.heap.size w w') :
    Calls Tryd.prog 97 #[.agg #[.map (some kb), .map (some sb)], .string s] w fun e w' => e = .returned (rdV s (0, 0, 22)) ∧ Below w.heap.size w w' := by
  have d0 : ((n : Int) == 0) = false := by simp; omega
  have d1 : decide ((1 : Int) < n) = true := by simp; omega
  have d1' : decide (1 < n) = true := by simp; omega
  have d2 : decide ((0 : Int) < d) = true := by simp; omega
  have d2' : decide (0 < d) = true := by simp; omega
  have hi1 : ((n : Int) + 1 + (d : Int)) ≤ (s.size : Int) := by omega
  have d3 : decide ((0 : Int) < t) = true := by simp; omega
  have d3' : decide (0 < t) = true := by simp; omega
  have Cd := Lib.hid cd; clear cd
  have Cc := Lib.hid cc; clear cc
  have Cr := Lib.hid cr; clear cr
  have Ct := Lib.hid ct; clear ct
  go_enter Tryd.func97, Tryd.ntmps97
  go_wp2_with fail
  refine (Cd.out _).mono ?_; rintro e w1 ⟨rfl, hb1⟩
  have Hg1 := Lib.hid hb1; clear hb1
  go_wp2_with fail
  refine (Cc.out _).mono ?_; rintro e w9 ⟨rfl, rfl⟩
  go_wp2_with fail
  refine (Cr.out _).mono ?_; rintro e w2 ⟨rfl, hb2⟩
  have hg2 := Hg1.out.trans (hb2.mono Hg1.out.size)
  have Hg2 := Lib.hid hg2; clear hb2 hg2
  go_wp2_with fail
  refine (Cr.out _).mono ?_; rintro e w3 ⟨rfl, hb3⟩
  have hg3 := Hg2.out.trans (hb3.mono Hg2.out.size)
  have Hg3 := Lib.hid hg3; clear hb3 hg3
  go_wp2_with fail
  refine (Ct.out _).mono ?_; rintro e w4 ⟨rfl, hb4⟩
  have hg4 := Hg3.out.trans (hb4.mono Hg3.out.size)
  have Hg4 := Lib.hid hg4; clear hb4 hg4
  obtain ⟨hc, hf⟩ := bcell Hg4.out
  have hz : w.heap.size + 1 < w4.heap.size := by have := Hg4.out.size; simp at this; omega
  go_wp2
  refine bodyPost_ret (v := rdV s (0, 0, 22)) ?_ rfl ⟨rfl, ?_⟩
  · simp [results, Tryd.results97, go_sem, hc, hz]
    simp [rdV, plV, extract_zero] <;> rfl
  · exact below_pl (below_call Hg4.out) (by omega) _ _ _ _

set_option maxHeartbeats 800000 in
set_option maxRecDepth 100000 in
theorem num_Cz1 (s : ByteArray) (kb sb : Nat) (w : World) (hs : s.size ≤ 65536) (n : Nat) (hn1 : 1 ≤ n) (hnl : n ≤ s.size) (hp0 : 0 < s.size) (cd : ∀ w, Calls Tryd.prog 99 #[.string s, .func (.func 114) #[] #[]] w fun e w' => e = .returned (.int .i64 n) ∧ Below w.heap.size w w') (D : ByteArray) (cc : ∀ w, Calls Tryd.prog 115 #[.string (s.extract n s.size), .string ⟨#[46]⟩] w fun e w' => e = .returned (.tuple #[.string D, .bool true]) ∧ w = w') (d : Nat) (hd1 : 1 ≤ d) (hdl : n + 1 + d ≤ s.size) (cr : ∀ w, Calls Tryd.prog 99 #[.string D, .func (.func 114) #[] #[]] w fun e w' => e = .returned (.int .i64 (d : Nat)) ∧ Below w.heap.size w w') (hn2 : n ≤ 1) (ct : ∀ w, Calls Tryd.prog 99 #[.string (s.extract (n + 1 + d) s.size), .func (.func 116) #[] #[]] w fun e w' => e = .returned (.int .i64 (0 : Nat)) ∧ Below w.heap.size w w') :
    Calls Tryd.prog 97 #[.agg #[.map (some kb), .map (some sb)], .string s] w fun e w' => e = .returned (rdV s (3, (n + 1 + d), 0)) ∧ Below w.heap.size w w' := by
  have d0 : ((n : Int) == 0) = false := by simp; omega
  have d1 : decide ((1 : Int) < n) = false := by simp; omega
  have d1' : decide (1 < n) = false := by simp; omega
  have d2 : decide ((0 : Int) < d) = true := by simp; omega
  have d2' : decide (0 < d) = true := by simp; omega
  have hi1 : ((n : Int) + 1 + (d : Int)) ≤ (s.size : Int) := by omega
  have Cd := Lib.hid cd; clear cd
  have Cc := Lib.hid cc; clear cc
  have Cr := Lib.hid cr; clear cr
  have Ct := Lib.hid ct; clear ct
  go_enter Tryd.func97, Tryd.ntmps97
  go_wp2_with fail
  refine (Cd.out _).mono ?_; rintro e w1 ⟨rfl, hb1⟩
  have Hg1 := Lib.hid hb1; clear hb1
  go_wp2_with fail
  refine (Cc.out _).mono ?_; rintro e w9 ⟨rfl, rfl⟩
  go_wp2_with fail
  refine (Cr.out _).mono ?_; rintro e w2 ⟨rfl, hb2⟩
  have hg2 := Hg1.out.trans (hb2.mono Hg1.out.size)
  have Hg2 := Lib.hid hg2; clear hb2 hg2
  go_wp2_with fail
  refine (Cr.out _).mono ?_; rintro e w3 ⟨rfl, hb3⟩
  have hg3 := Hg2.out.trans (hb3.mono Hg2.out.size)
  have Hg3 := Lib.hid hg3; clear hb3 hg3
  go_wp2_with fail
  refine (Ct.out _).mono ?_; rintro e w4 ⟨rfl, hb4⟩
  have hg4 := Hg3.out.trans (hb4.mono Hg3.out.size)
  have Hg4 := Lib.hid hg4; clear hb4 hg4
  go_wp2_with fail
  refine (place_any s 3 (n + 1 + d) _ (by omega) (by omega)).mono ?_; rintro e w5 ⟨rfl, hb5⟩
  simp only [plV]
  have hg5 := Hg4.out.trans (hb5.mono Hg4.out.size)
  have Hg5 := Lib.hid hg5; clear hb5 hg5
  obtain ⟨hc, hf⟩ := bcell Hg5.out
  have hz : w.heap.size + 1 < w5.heap.size := by have := Hg5.out.size; simp at this; omega
  go_wp2
  refine bodyPost_ret (v := rdV s (3, (n + 1 + d), 0)) ?_ rfl ⟨rfl, ?_⟩
  · simp [results, Tryd.results97, go_sem, hc, hz]
    simp [rdV, plV, extract_zero] <;> rfl
  · exact below_pl (below_call Hg5.out) (by omega) _ _ _ _

set_option maxHeartbeats 800000 in
set_option maxRecDepth 100000 in
theorem num_Cz2 (s : ByteArray) (kb sb : Nat) (w : World) (hs : s.size ≤ 65536) (n : Nat) (hn1 : 1 ≤ n) (hnl : n ≤ s.size) (hp0 : 0 < s.size) (cd : ∀ w, Calls Tryd.prog 99 #[.string s, .func (.func 114) #[] #[]] w fun e w' => e = .returned (.int .i64 n) ∧ Below w.heap.size w w') (D : ByteArray) (cc : ∀ w, Calls Tryd.prog 115 #[.string (s.extract n s.size), .string ⟨#[46]⟩] w fun e w' => e = .returned (.tuple #[.string D, .bool true]) ∧ w = w') (d : Nat) (hd1 : 1 ≤ d) (hdl : n + 1 + d ≤ s.size) (cr : ∀ w, Calls Tryd.prog 99 #[.string D, .func (.func 114) #[] #[]] w fun e w' => e = .returned (.int .i64 (d : Nat)) ∧ Below w.heap.size w w') (hn2 : 1 < n) (h48 : (((s[0]'hp0).toNat : Int) == 48) = false) (ct : ∀ w, Calls Tryd.prog 99 #[.string (s.extract (n + 1 + d) s.size), .func (.func 116) #[] #[]] w fun e w' => e = .returned (.int .i64 (0 : Nat)) ∧ Below w.heap.size w w') :
    Calls Tryd.prog 97 #[.agg #[.map (some kb), .map (some sb)], .string s] w fun e w' => e = .returned (rdV s (3, (n + 1 + d), 0)) ∧ Below w.heap.size w w' := by
  have d0 : ((n : Int) == 0) = false := by simp; omega
  have d1 : decide ((1 : Int) < n) = true := by simp; omega
  have d1' : decide (1 < n) = true := by simp; omega
  have d2 : decide ((0 : Int) < d) = true := by simp; omega
  have d2' : decide (0 < d) = true := by simp; omega
  have hi1 : ((n : Int) + 1 + (d : Int)) ≤ (s.size : Int) := by omega
  have Cd := Lib.hid cd; clear cd
  have Cc := Lib.hid cc; clear cc
  have Cr := Lib.hid cr; clear cr
  have Ct := Lib.hid ct; clear ct
  go_enter Tryd.func97, Tryd.ntmps97
  go_wp2_with fail
  refine (Cd.out _).mono ?_; rintro e w1 ⟨rfl, hb1⟩
  have Hg1 := Lib.hid hb1; clear hb1
  go_wp2_with fail
  refine (Cc.out _).mono ?_; rintro e w9 ⟨rfl, rfl⟩
  go_wp2_with fail
  refine (Cr.out _).mono ?_; rintro e w2 ⟨rfl, hb2⟩
  have hg2 := Hg1.out.trans (hb2.mono Hg1.out.size)
  have Hg2 := Lib.hid hg2; clear hb2 hg2
  go_wp2_with fail
  refine (Cr.out _).mono ?_; rintro e w3 ⟨rfl, hb3⟩
  have hg3 := Hg2.out.trans (hb3.mono Hg2.out.size)
  have Hg3 := Lib.hid hg3; clear hb3 hg3
  go_wp2_with fail
  refine (Ct.out _).mono ?_; rintro e w4 ⟨rfl, hb4⟩
  have hg4 := Hg3.out.trans (hb4.mono Hg3.out.size)
  have Hg4 := Lib.hid hg4; clear hb4 hg4
  go_wp2_with fail
  refine (place_any s 3 (n + 1 + d) _ (by omega) (by omega)).mono ?_; rintro e w5 ⟨rfl, hb5⟩
  simp only [plV]
  have hg5 := Hg4.out.trans (hb5.mono Hg4.out.size)
  have Hg5 := Lib.hid hg5; clear hb5 hg5
  obtain ⟨hc, hf⟩ := bcell Hg5.out
  have hz : w.heap.size + 1 < w5.heap.size := by have := Hg5.out.size; simp at this; omega
  go_wp2
  refine bodyPost_ret (v := rdV s (3, (n + 1 + d), 0)) ?_ rfl ⟨rfl, ?_⟩
  · simp [results, Tryd.results97, go_sem, hc, hz]
    simp [rdV, plV, extract_zero] <;> rfl
  · exact below_pl (below_call Hg5.out) (by omega) _ _ _ _
end Go.Proofs.YtokdoklkaojheaaDoor

import Derived.Test.YtokdoklkaojheaaDoorYh
namespace Go.Proofs.YtokdoklkaojheaaDoor
open Go.RowKit

theorem sp_sizes (s : ByteArray) : (spA s).size ≤ s.size ∧ (spB s).size ≤ s.size := by
  unfold spA spB
  split
  · constructor
    · simp; omega
    · simp
  · exact ⟨Nat.zero_le _, Nat.le_refl _⟩
theorem qualfd_size (s : ByteArray) : qualfd s.data.toList = decide ((spB s).size < s.size) := by
  unfold qualfd Lib.contains spB ccI
  by_cases h : 0 ≤ Lib.index s.data.toList [58, 58]
  · have hr := Lib.index_room _ _ h
    have hl : s.data.toList.length = s.size := by simp
    simp at hr
    rw [decide_eq_true h, if_pos h]
    symm
    rw [decide_eq_true_eq]
    simp
    omega
  · rw [decide_eq_false h, if_neg h]; simp

theorem refQual_any (s : ByteArray) (w : World) (hs : s.size ≤ 65536) :
    Calls Tryd.prog 85 #[.string s] w fun r w' => r = .returned (.bool (qualfd s.data.toList)) ∧ Below w.heap.size w w' := by
  rw [qualfd_size]
  have c := fun w => refSplit_any s w hs
  have hz := (sp_sizes s).2
  have hd : decide (((spB s).size : Int) < s.size) = decide ((spB s).size < s.size) := by rw [Bool.eq_iff_iff, decide_eq_true_eq, decide_eq_true_eq]; omega
  generalize spB s = B at *
  generalize spA s = A at *
  cases hb : decide (B.size < s.size) with
  | true =>
    rw [hb] at hd
    have C := Lib.hid c; clear c
    go_enter Tryd.func85, Tryd.ntmps85
    go_wp2_with fail
    refine (C.out _).mono ?_; rintro e w1 ⟨rfl, hb⟩
    have Hb := Lib.hid hb; clear hb
    go_wp2
    go_ret
    exact ⟨rfl, Hb.out⟩
  | false =>
    rw [hb] at hd
    have C := Lib.hid c; clear c
    go_enter Tryd.func85, Tryd.ntmps85
    go_wp2_with fail
    refine (C.out _).mono ?_; rintro e w1 ⟨rfl, hb⟩
    have Hb := Lib.hid hb; clear hb
    go_wp2
    go_ret
    exact ⟨rfl, Hb.out⟩

theorem refGlob_any (s : ByteArray) (up : Bool) (w : World) (hs : s.size ≤ 65536) :
    Calls Tryd.prog 49 #[.string s, .bool up] w fun r w' => r = .returned (.bool (globR s.data.toList up)) ∧ Below w.heap.size w w' := by
  have hz := sp_sizes s
  have c := fun w => refSplit_any s w hs
  have cq := fun w => refQual_any s w hs
  have cu := fun w => refUpper_any (spA s) w (by omega)
  have cv := fun w => refUpper_any (spB s) w (by omega)
  have cl := fun w => refLower_any (spB s) w (by omega)
  rw [spA_list] at cu
  rw [spB_list] at cv cl
  unfold globR
  generalize qualfd s.data.toList = q at *
  generalize upB (splitA s.data.toList) = ua at *
  generalize upB (splitB s.data.toList) = ub at *
  generalize loB (splitB s.data.toList) = lb at *
  generalize spA s = A at *
  generalize spB s = B at *
  have C := Lib.hid c; have Cq := Lib.hid cq; have Cu := Lib.hid cu; have Cv := Lib.hid cv; have Cl := Lib.hid cl
  clear c cq cu cv cl
  cases q
  · cases up
    all_goals
      go_enter Tryd.func49, Tryd.ntmps49
      go_wp2_with fail
      refine (C.out _).mono ?_; rintro e w1 ⟨rfl, hb⟩
      have Hb := Lib.hid hb; clear hb
      go_wp2_with fail
      refine (Cq.out _).mono ?_; rintro e w2 ⟨rfl, hb⟩
      have Hb2 := Lib.hid hb; clear hb
      go_wp2_with fail
      first
        | (refine (Cl.out _).mono ?_; rintro e w3 ⟨rfl, hb⟩)
        | (refine (Cv.out _).mono ?_; rintro e w3 ⟨rfl, hb⟩)
      have Hb3 := Lib.hid hb; clear hb
      go_wp2
      go_ret
      exact ⟨by simp, Hb.out.trans ((Hb2.out.trans (Hb3.out.mono Hb2.out.size)).mono Hb.out.size)⟩
  · cases ua
    · cases up
      all_goals
        go_enter Tryd.func49, Tryd.ntmps49
        go_wp2_with fail
        refine (C.out _).mono ?_; rintro e w1 ⟨rfl, hb⟩
        have Hb := Lib.hid hb; clear hb
        go_wp2_with fail
        refine (Cq.out _).mono ?_; rintro e w2 ⟨rfl, hb⟩
        have Hb2 := Lib.hid hb; clear hb
        go_wp2_with fail
        refine (Cu.out _).mono ?_; rintro e w3 ⟨rfl, hb⟩
        have Hb3 := Lib.hid hb; clear hb
        go_wp2
        go_ret
        exact ⟨by simp, Hb.out.trans ((Hb2.out.trans (Hb3.out.mono Hb2.out.size)).mono Hb.out.size)⟩
    · cases up
      all_goals
        go_enter Tryd.func49, Tryd.ntmps49
        go_wp2_with fail
        refine (C.out _).mono ?_; rintro e w1 ⟨rfl, hb⟩
        have Hb := Lib.hid hb; clear hb
        go_wp2_with fail
        refine (Cq.out _).mono ?_; rintro e w2 ⟨rfl, hb⟩
        have Hb2 := Lib.hid hb; clear hb
        go_wp2_with fail
        refine (Cu.out _).mono ?_; rintro e w3 ⟨rfl, hb⟩
        have Hb3 := Lib.hid hb; clear hb
        go_wp2_with fail
        first
          | (refine (Cl.out _).mono ?_; rintro e w4 ⟨rfl, hb⟩)
          | (refine (Cv.out _).mono ?_; rintro e w4 ⟨rfl, hb⟩)
        have Hb4 := Lib.hid hb; clear hb
        go_wp2
        go_ret
        have hB2 := Hb2.out.trans (Hb3.out.mono Hb2.out.size)
        have hB3 := hB2.trans (Hb4.out.mono hB2.size)
        exact ⟨by simp, Hb.out.trans (hB3.mono Hb.out.size)⟩

theorem refIsGlobal_any (s : ByteArray) (w : World) (hs : s.size ≤ 65536) :
    Calls Tryd.prog 23 #[.string s] w fun r w' => r = .returned (.bool (isGlobR s.data.toList)) ∧ Below w.heap.size w w' := by
  have c1 := fun w => refGlob_any s true w hs
  have c2 := fun w => refGlob_any s false w hs
  unfold isGlobR
  generalize globR s.data.toList true = a at *
  generalize globR s.data.toList false = b at *
  have C1 := Lib.hid c1; have C2 := Lib.hid c2; clear c1 c2
  cases a
  · go_enter Tryd.func23, Tryd.ntmps23
    go_wp2_with fail
    refine (C1.out _).mono ?_; rintro e w1 ⟨rfl, hb⟩
    have Hb := Lib.hid hb; clear hb
    go_wp2_with fail
    refine (C2.out _).mono ?_; rintro e w2 ⟨rfl, hb⟩
    have Hb2 := Lib.hid hb; clear hb
    go_wp2
    go_ret
    exact ⟨by simp, Hb.out.trans (Hb2.out.mono Hb.out.size)⟩
  · go_enter Tryd.func23, Tryd.ntmps23
    go_wp2_with fail
    refine (C1.out _).mono ?_; rintro e w1 ⟨rfl, hb⟩
    have Hb := Lib.hid hb; clear hb
    go_wp2
    go_ret
    exact ⟨by simp, Hb.out⟩

theorem refIsName_any (s : ByteArray) (w : World) (hs : s.size ≤ 65536) :
    Calls Tryd.prog 21 #[.string s] w fun r w' => r = .returned (.bool (nameR s.data.toList)) ∧ Below w.heap.size w w' := by
  have C := Lib.hid fun w => refName_any s w hs
  go_enter Tryd.func21, Tryd.ntmps21
  go_wp2_with fail
  refine (C.out _).mono ?_; rintro e w1 ⟨rfl, hb⟩
  have Hb := Lib.hid hb; clear hb
  go_wp2
  go_ret
  exact ⟨rfl, Hb.out⟩

/-- what Split returns -/
def spM (s : ByteArray) : ByteArray := if isGlobR s.data.toList then spA s else ⟨#[]⟩
def spN (s : ByteArray) : ByteArray := if isGlobR s.data.toList then spB s else ⟨#[]⟩
def spE (s : ByteArray) : Int := if isGlobR s.data.toList then 0 else 6
def spR (s : ByteArray) : Value := .tuple #[.string (spM s), .string (spN s), .int .i64 (spE s)]

theorem refSplit3_any (s : ByteArray) (w : World) (hs : s.size ≤ 65536) :
    Calls Tryd.prog 18 #[.string s] w fun r w' => r = .returned (spR s) ∧ Below w.heap.size w w' := by
  have c1 := fun w => refIsGlobal_any s w hs
  have c2 := fun w => refSplit_any s w hs
  unfold spR spM spN spE
  generalize isGlobR s.data.toList = a at *
  have C1 := Lib.hid c1; have C2 := Lib.hid c2; clear c1 c2
  cases a
  · go_enter Tryd.func18, Tryd.ntmps18
    go_wp2_with fail
    refine (C1.out _).mono ?_; rintro e w1 ⟨rfl, hb⟩
    have Hb := Lib.hid hb; clear hb
    go_wp2
    go_ret3
    exact ⟨by simp, Hb.out⟩
  · go_enter Tryd.func18, Tryd.ntmps18
    go_wp2_with fail
    refine (C1.out _).mono ?_; rintro e w1 ⟨rfl, hb⟩
    have Hb := Lib.hid hb; clear hb
    go_wp2_with fail
    refine (C2.out _).mono ?_; rintro e w2 ⟨rfl, hb⟩
    have Hb2 := Lib.hid hb; clear hb
    go_wp2
    go_ret3
    exact ⟨by simp, Hb.out.trans (Hb2.out.mono Hb.out.size)⟩
end Go.Proofs.YtokdoklkaojheaaDoor

import Derived.Test.YtokdoklkaojheaaDoorWq
namespace Go.Proofs.YtokdoklkaojheaaDoor
open Go.RowKit

theorem below_undrewN {B n : Nat} {w w' : World} (h : Below B (w.drewN n) w') : Below B w w' := ⟨h.os, h.tape, h.output, h.size, h.block⟩

def signAt (l : List UInt8) (m : Nat) : Bool := decide (m ≤ l.length) && decide (l.take m ∈ sgwL)
def signLen (l : List UInt8) : Nat := if signAt l 4 then 4 else if signAt l 3 then 3 else if signAt l 2 then 2 else if signAt l 1 then 1 else 0
def signR (l : List UInt8) : Nat × Nat × Int := if signLen l = 0 then (0, 0, 22) else (4, signLen l, 0)

theorem signR_miss (l : List UInt8) (h4 : signAt l 4 = false) (h3 : signAt l 3 = false) (h2 : signAt l 2 = false) (h1 : signAt l 1 = false) : signR l = (0, 0, 22) := by
  simp [signR, signLen, h4, h3, h2, h1]

set_option maxHeartbeats 2000000 in
set_option maxRecDepth 100000 in
theorem sign_any (s : ByteArray) (kb sb : Nat) (w : World) (hs : s.size ≤ 65536) (hsc : IsScanner w kb sb) :
    Calls Tryd.prog 98 #[.agg #[.map (some kb), .map (some sb)], .string s] w fun e w' => e = .returned (rdV s (signR s.data.toList)) ∧ Below w.heap.size w w' := by
  have Hsc := Lib.hid hsc
  have hlt := hsc.lt
  clear hsc
  obtain ⟨W, hW⟩ : ∃ W, (w.alloc (.cells #[.map (some kb), .map (some sb)] 69)).alloc (.cells #[.int .i64 0, .string ⟨#[]⟩, .int .i64 0, .int .i64 0] 73) = W := ⟨_, rfl⟩
  have hsz : W.heap.size = w.heap.size + 2 := by rw [← hW]; simp
  have hbW : Below w.heap.size w W := by rw [← hW]; exact below_two w _ _
  have hW1 : W.cell? ⟨w.heap.size, 1, none⟩ = some (.map (some sb)) := by rw [← hW]; simp [World.cell?_alloc_lt]
  have hWp : ∀ o, o < 4 → ∃ v, W.cell? ⟨w.heap.size + 1, o, none⟩ = some v := by
    intro o ho
    rw [← hW]
    have : o = 0 ∨ o = 1 ∨ o = 2 ∨ o = 3 := by omega
    rcases this with rfl | rfl | rfl | rfl
    · exact ⟨.int .i64 0, by simp⟩
    · exact ⟨.string ⟨#[]⟩, by simp⟩
    · exact ⟨.int .i64 0, by simp⟩
    · exact ⟨.int .i64 0, by simp⟩
  have hWf : ∀ o, W.frozen? ⟨w.heap.size + 1, o, none⟩ = false := by
    intro o; rw [← hW]
    simp
  have HW := Lib.hid hW; clear hW
  have HWp := Lib.hid hWp; clear hWp
  have HWf := Lib.hid hWf; clear hWf
  have HW1 := Lib.hid hW1; clear hW1
  have Hsz := Lib.hid hsz; clear hsz
  have HbW := Lib.hid hbW; clear hbW
  go_enter Tryd.func98, Tryd.ntmps98
  go_wp2
  rw [HW.out]
  go_loopw [8] (fun i wr => ∃ k : Nat, k ≤ 4 ∧ i = .int .i64 k ∧ Below W.heap.size W wr ∧ ∀ m, 4 < m + k → m ≤ 4 → signAt s.data.toList m = false) (fun i _ => 4 - (intOf i).toNat)
  case atStart => exact ⟨0, by omega, rfl, Below.refl _ _, fun m h1 h2 => by omega⟩
  case round =>
    obtain ⟨k, hk, rfl, hb, hno⟩ := hrel
    have Hno := Lib.hid hno; clear hno
    have hgW := HbW.out.trans (hb.mono (by have := Hsz.out; omega))
    have hsc2 : IsScanner wr kb sb := Hsc.out.below hlt.1 hlt.2 hgW
    have hk1 : wr.cell? ⟨w.heap.size, 1, none⟩ = some (.map (some sb)) := (hb.cell (p := ⟨w.heap.size, 1, none⟩) (by have := Hsz.out; simp; omega)).trans HW1.out
    have Hsc2 := Lib.hid hsc2; clear hsc2
    have Hb := Lib.hid hb; clear hb
    have HgW := Lib.hid hgW; clear hgW
    have hkc : k = 4 ∨ k = 0 ∨ k = 1 ∨ k = 2 ∨ k = 3 := by omega
    rcases hkc with rfl | rfl | rfl | rfl | rfl
    · have hv := signR_miss s.data.toList (Hno.out 4 (by omega) (by omega)) (Hno.out 3 (by omega) (by omega)) (Hno.out 2 (by omega) (by omega)) (Hno.out 1 (by omega) (by omega))
      have Hv := Lib.hid hv; clear hv
      obtain ⟨v0, hv0⟩ := HWp.out 0 (by omega)
      obtain ⟨v1, hv1⟩ := HWp.out 1 (by omega)
      obtain ⟨v2, hv2⟩ := HWp.out 2 (by omega)
      obtain ⟨v3, hv3⟩ := HWp.out 3 (by omega)
      obtain ⟨hc, hf⟩ := bcell Hb.out
      have hzW : w.heap.size + 1 < W.heap.size := by have := Hsz.out; omega
      have hz0 : w.heap.size < W.heap.size := by omega
      have c0 := (hc (w.heap.size + 1) 0 hzW).trans hv0
      have c1 := (hc (w.heap.size + 1) 1 hzW).trans hv1
      have c2 := (hc (w.heap.size + 1) 2 hzW).trans hv2
      have c3 := (hc (w.heap.size + 1) 3 hzW).trans hv3
      have f0 := fun o => (hf (w.heap.size + 1) o hzW).trans (HWf.out o)
      clear hc hf hv0 hv1 hv2 hv3
      go_wp2
      refine bodyPost_ret (v := rdV s (0, 0, 22)) ?_ rfl ⟨by rw [Hv.out], ?_⟩
      · simp [results, Tryd.results98, go_sem, c0, c1, c2, c3]
        simp [rdV, plV, extract_zero] <;> rfl
      · exact below_pl HgW.out (by omega) _ _ _ _
    · by_cases hn : 4 ≤ s.size
      · have d1 : decide ((4 : Int) ≤ s.size) = true := decide_eq_true (by omega)
        have d1' : decide (4 ≤ s.size) = true := decide_eq_true hn
        have hl : ∀ nq, (Instr.lookup 67 (.map (some sb)) (.string (s.extract 0 4)) false).run Tryd.prog (wr.drewN nq) = .ok (.bool (decide ((s.extract 0 4).data.toList ∈ sgwL))) (wr.drewN nq) := fun nq => run_look _ sb sgwL (wr.drewN nq) Hsc2.out.2
        have e1 : (s.extract 0 4).data.toList = s.data.toList.take 4 := by rw [Lib.extract_data]; simp
        rw [e1] at hl
        clear e1
        have hsz2 : s.data.toList.length = s.size := by simp
        cases hin : decide (s.data.toList.take 4 ∈ sgwL) with
        | true =>
          have hv : signR s.data.toList = (4, 4, 0) := by
            have h : signAt s.data.toList 4 = true := by unfold signAt; rw [hin, hsz2, decide_eq_true hn]; rfl
            simp [signR, signLen, h]
          rw [hin] at hl
          have Hv := Lib.hid hv; clear hv hin hsz2
          go_wp2
          go_quiet (fail)
          go_wp2_with fail
          refine (place_any s 4 4 _ hn (by omega)).mono ?_; rintro e w3 ⟨rfl, hb3⟩
          simp only [plV]
          have hb4 := Hb.out.trans ((below_undrewN hb3).mono Hb.out.size)
          clear hb3
          obtain ⟨v0, hv0⟩ := HWp.out 0 (by omega)
          obtain ⟨v1, hv1⟩ := HWp.out 1 (by omega)
          obtain ⟨v2, hv2⟩ := HWp.out 2 (by omega)
          obtain ⟨v3, hv3⟩ := HWp.out 3 (by omega)
          obtain ⟨hc, hf⟩ := bcell hb4
          have Hb4 := Lib.hid hb4; clear hb4
          have hzW : w.heap.size + 1 < W.heap.size := by have := Hsz.out; omega
          have c0 := (hc (w.heap.size + 1) 0 hzW).trans hv0
          have c1 := (hc (w.heap.size + 1) 1 hzW).trans hv1
          have c2 := (hc (w.heap.size + 1) 2 hzW).trans hv2
          have c3 := (hc (w.heap.size + 1) 3 hzW).trans hv3
          have f0 := fun o => (hf (w.heap.size + 1) o hzW).trans (HWf.out o)
          clear hc hf hv0 hv1 hv2 hv3 hk1 hl
          go_wp2
          refine bodyPost_ret (v := rdV s (4, 4, 0)) ?_ rfl ⟨by rw [Hv.out], ?_⟩
          · simp [results, Tryd.results98, go_sem, c0, c1, c2, c3]
            simp [rdV, plV, extract_zero] <;> rfl
          · exact below_pl (HbW.out.trans (Hb4.out.mono (by have := Hsz.out; omega))) (by omega) _ _ _ _
        | false =>
          have hv : signAt s.data.toList 4 = false := by unfold signAt; rw [hin]; simp
          rw [hin] at hl
          have Hv := Lib.hid hv; clear hv hin hsz2
          go_wp2
          go_quiet (fail)
          go_wp2
          go_roundw
          case rel => exact ⟨1, by omega, rfl, below_drewN Hb.out _, fun m h1 h2 => by
            by_cases e : m = 4
            · rw [e]; exact Hv.out
            · exact Hno.out m (by omega) h2⟩
          case measure => simp [intOf]
      · have hv : signAt s.data.toList 4 = false := by unfold signAt; rw [decide_eq_false (by rw [show s.data.toList.length = s.size by simp]; exact hn)]; rfl
        have Hv := Lib.hid hv; clear hv
        have d1 : decide ((4 : Int) ≤ s.size) = false := decide_eq_false (by omega)
        have d1' : decide (4 ≤ s.size) = false := decide_eq_false hn
        go_wp2
        go_quiet (fail)
        go_wp2
        go_roundw
        case rel => exact ⟨1, by omega, rfl, below_drewN Hb.out _, fun m h1 h2 => by
          by_cases e : m = 4
          · rw [e]; exact Hv.out
          · exact Hno.out m (by omega) h2⟩
        case measure => simp [intOf]
    · by_cases hn : 3 ≤ s.size
      · have d1 : decide ((3 : Int) ≤ s.size) = true := decide_eq_true (by omega)
        have d1' : decide (3 ≤ s.size) = true := decide_eq_true hn
        have hl : ∀ nq, (Instr.lookup 67 (.map (some sb)) (.string (s.extract 0 3)) false).run Tryd.prog (wr.drewN nq) = .ok (.bool (decide ((s.extract 0 3).data.toList ∈ sgwL))) (wr.drewN nq) := fun nq => run_look _ sb sgwL (wr.drewN nq) Hsc2.out.2
        have e1 : (s.extract 0 3).data.toList = s.data.toList.take 3 := by rw [Lib.extract_data]; simp
        rw [e1] at hl
        clear e1
        have hsz2 : s.data.toList.length = s.size := by simp
        cases hin : decide (s.data.toList.take 3 ∈ sgwL) with
        | true =>
          have hv : signR s.data.toList = (4, 3, 0) := by
            have h : signAt s.data.toList 3 = true := by unfold signAt; rw [hin, hsz2, decide_eq_true hn]; rfl
            simp [signR, signLen, h, Hno.out 4 (by omega) (by omega)]
          rw [hin] at hl
          have Hv := Lib.hid hv; clear hv hin hsz2
          go_wp2
          go_quiet (fail)
          go_wp2_with fail
          refine (place_any s 4 3 _ hn (by omega)).mono ?_; rintro e w3 ⟨rfl, hb3⟩
          simp only [plV]
          have hb4 := Hb.out.trans ((below_undrewN hb3).mono Hb.out.size)
          clear hb3
          obtain ⟨v0, hv0⟩ := HWp.out 0 (by omega)
          obtain ⟨v1, hv1⟩ := HWp.out 1 (by omega)
          obtain ⟨v2, hv2⟩ := HWp.out 2 (by omega)
          obtain ⟨v3, hv3⟩ := HWp.out 3 (by omega)
          obtain ⟨hc, hf⟩ := bcell hb4
          have Hb4 := Lib.hid hb4; clear hb4
          have hzW : w.heap.size + 1 < W.heap.size := by have := Hsz.out; omega
          have c0 := (hc (w.heap.size + 1) 0 hzW).trans hv0
          have c1 := (hc (w.heap.size + 1) 1 hzW).trans hv1
          have c2 := (hc (w.heap.size + 1) 2 hzW).trans hv2
          have c3 := (hc (w.heap.size + 1) 3 hzW).trans hv3
          have f0 := fun o => (hf (w.heap.size + 1) o hzW).trans (HWf.out o)
          clear hc hf hv0 hv1 hv2 hv3 hk1 hl
          go_wp2
          refine bodyPost_ret (v := rdV s (4, 3, 0)) ?_ rfl ⟨by rw [Hv.out], ?_⟩
          · simp [results, Tryd.results98, go_sem, c0, c1, c2, c3]
            simp [rdV, plV, extract_zero] <;> rfl
          · exact below_pl (HbW.out.trans (Hb4.out.mono (by have := Hsz.out; omega))) (by omega) _ _ _ _
        | false =>
          have hv : signAt s.data.toList 3 = false := by unfold signAt; rw [hin]; simp
          rw [hin] at hl
          have Hv := Lib.hid hv; clear hv hin hsz2
          go_wp2
          go_quiet (fail)
          go_wp2
          go_roundw
          case rel => exact ⟨2, by omega, rfl, below_drewN Hb.out _, fun m h1 h2 => by
            by_cases e : m = 3
            · rw [e]; exact Hv.out
            · exact Hno.out m (by omega) h2⟩
          case measure => simp [intOf]
      · have hv : signAt s.data.toList 3 = false := by unfold signAt; rw [decide_eq_false (by rw [show s.data.toList.length = s.size by simp]; exact hn)]; rfl
        have Hv := Lib.hid hv; clear hv
        have d1 : decide ((3 : Int) ≤ s.size) = false := decide_eq_false (by omega)
        have d1' : decide (3 ≤ s.size) = false := decide_eq_false hn
        go_wp2
        go_quiet (fail)
        go_wp2
        go_roundw
        case rel => exact ⟨2, by omega, rfl, below_drewN Hb.out _, fun m h1 h2 => by
          by_cases e : m = 3
          · rw [e]; exact Hv.out
          · exact Hno.out m (by omega) h2⟩
        case measure => simp [intOf]
    · by_cases hn : 2 ≤ s.size
      · have d1 : decide ((2 : Int) ≤ s.size) = true := decide_eq_true (by omega)
        have d1' : decide (2 ≤ s.size) = true := decide_eq_true hn
        have hl : ∀ nq, (Instr.lookup 67 (.map (some sb)) (.string (s.extract 0 2)) false).run Tryd.prog (wr.drewN nq) = .ok (.bool (decide ((s.extract 0 2).data.toList ∈ sgwL))) (wr.drewN nq) := fun nq => run_look _ sb sgwL (wr.drewN nq) Hsc2.out.2
        have e1 : (s.extract 0 2).data.toList = s.data.toList.take 2 := by rw [Lib.extract_data]; simp
        rw [e1] at hl
        clear e1
        have hsz2 : s.data.toList.length = s.size := by simp
        cases hin : decide (s.data.toList.take 2 ∈ sgwL) with
        | true =>
          have hv : signR s.data.toList = (4, 2, 0) := by
            have h : signAt s.data.toList 2 = true := by unfold signAt; rw [hin, hsz2, decide_eq_true hn]; rfl
            simp [signR, signLen, h, Hno.out 3 (by omega) (by omega), Hno.out 4 (by omega) (by omega)]
          rw [hin] at hl
          have Hv := Lib.hid hv; clear hv hin hsz2
          go_wp2
          go_quiet (fail)
          go_wp2_with fail
          refine (place_any s 4 2 _ hn (by omega)).mono ?_; rintro e w3 ⟨rfl, hb3⟩
          simp only [plV]
          have hb4 := Hb.out.trans ((below_undrewN hb3).mono Hb.out.size)
          clear hb3
          obtain ⟨v0, hv0⟩ := HWp.out 0 (by omega)
          obtain ⟨v1, hv1⟩ := HWp.out 1 (by omega)
          obtain ⟨v2, hv2⟩ := HWp.out 2 (by omega)
          obtain ⟨v3, hv3⟩ := HWp.out 3 (by omega)
          obtain ⟨hc, hf⟩ := bcell hb4
          have Hb4 := Lib.hid hb4; clear hb4
          have hzW : w.heap.size + 1 < W.heap.size := by have := Hsz.out; omega
          have c0 := (hc (w.heap.size + 1) 0 hzW).trans hv0
          have c1 := (hc (w.heap.size + 1) 1 hzW).trans hv1
          have c2 := (hc (w.heap.size + 1) 2 hzW).trans hv2
          have c3 := (hc (w.heap.size + 1) 3 hzW).trans hv3
          have f0 := fun o => (hf (w.heap.size + 1) o hzW).trans (HWf.out o)
          clear hc hf hv0 hv1 hv2 hv3 hk1 hl
          go_wp2
          refine bodyPost_ret (v := rdV s (4, 2, 0)) ?_ rfl ⟨by rw [Hv.out], ?_⟩
          · simp [results, Tryd.results98, go_sem, c0, c1, c2, c3]
            simp [rdV, plV, extract_zero] <;> rfl
          · exact below_pl (HbW.out.trans (Hb4.out.mono (by have := Hsz.out; omega))) (by omega) _ _ _ _
        | false =>
          have hv : signAt s.data.toList 2 = false := by unfold signAt; rw [hin]; simp
          rw [hin] at hl
          have Hv := Lib.hid hv; clear hv hin hsz2
          go_wp2
          go_quiet (fail)
          go_wp2
          go_roundw
          case rel => exact ⟨3, by omega, rfl, below_drewN Hb.out _, fun m h1 h2 => by
            by_cases e : m = 2
            · rw [e]; exact Hv.out
            · exact Hno.out m (by omega) h2⟩
          case measure => simp [intOf]
      · have hv : signAt s.data.toList 2 = false := by unfold signAt; rw [decide_eq_false (by rw [show s.data.toList.length = s.size by simp]; exact hn)]; rfl
        have Hv := Lib.hid hv; clear hv
        have d1 : decide ((2 : Int) ≤ s.size) = false := decide_eq_false (by omega)
        have d1' : decide (2 ≤ s.size) = false := decide_eq_false hn
        go_wp2
        go_quiet (fail)
        go_wp2
        go_roundw
        case rel => exact ⟨3, by omega, rfl, below_drewN Hb.out _, fun m h1 h2 => by
          by_cases e : m = 2
          · rw [e]; exact Hv.out
          · exact Hno.out m (by omega) h2⟩
        case measure => simp [intOf]
    · by_cases hn : 1 ≤ s.size
      · have d1 : decide ((1 : Int) ≤ s.size) = true := decide_eq_true (by omega)
        have d1' : decide (1 ≤ s.size) = true := decide_eq_true hn
        have hl : ∀ nq, (Instr.lookup 67 (.map (some sb)) (.string (s.extract 0 1)) false).run Tryd.prog (wr.drewN nq) = .ok (.bool (decide ((s.extract 0 1).data.toList ∈ sgwL))) (wr.drewN nq) := fun nq => run_look _ sb sgwL (wr.drewN nq) Hsc2.out.2
        have e1 : (s.extract 0 1).data.toList = s.data.toList.take 1 := by rw [Lib.extract_data]; simp
        rw [e1] at hl
        clear e1
        have hsz2 : s.data.toList.length = s.size := by simp
        cases hin : decide (s.data.toList.take 1 ∈ sgwL) with
        | true =>
          have hv : signR s.data.toList = (4, 1, 0) := by
            have h : signAt s.data.toList 1 = true := by unfold signAt; rw [hin, hsz2, decide_eq_true hn]; rfl
            simp [signR, signLen, h, Hno.out 2 (by omega) (by omega), Hno.out 3 (by omega) (by omega), Hno.out 4 (by omega) (by omega)]
          rw [hin] at hl
          have Hv := Lib.hid hv; clear hv hin hsz2
          go_wp2
          go_quiet (fail)
          go_wp2_with fail
          refine (place_any s 4 1 _ hn (by omega)).mono ?_; rintro e w3 ⟨rfl, hb3⟩
          simp only [plV]
          have hb4 := Hb.out.trans ((below_undrewN hb3).mono Hb.out.size)
          clear hb3
          obtain ⟨v0, hv0⟩ := HWp.out 0 (by omega)
          obtain ⟨v1, hv1⟩ := HWp.out 1 (by omega)
          obtain ⟨v2, hv2⟩ := HWp.out 2 (by omega)
          obtain ⟨v3, hv3⟩ := HWp.out 3 (by omega)
          obtain ⟨hc, hf⟩ := bcell hb4
          have Hb4 := Lib.hid hb4; clear hb4
          have hzW : w.heap.size + 1 < W.heap.size := by have := Hsz.out; omega
          have c0 := (hc (w.heap.size + 1) 0 hzW).trans hv0
          have c1 := (hc (w.heap.size + 1) 1 hzW).trans hv1
          have c2 := (hc (w.heap.size + 1) 2 hzW).trans hv2
          have c3 := (hc (w.heap.size + 1) 3 hzW).trans hv3
          have f0 := fun o => (hf (w.heap.size + 1) o hzW).trans (HWf.out o)
          clear hc hf hv0 hv1 hv2 hv3 hk1 hl
          go_wp2
          refine bodyPost_ret (v := rdV s (4, 1, 0)) ?_ rfl ⟨by rw [Hv.out], ?_⟩
          · simp [results, Tryd.results98, go_sem, c0, c1, c2, c3]
            simp [rdV, plV, extract_zero] <;> rfl
          · exact below_pl (HbW.out.trans (Hb4.out.mono (by have := Hsz.out; omega))) (by omega) _ _ _ _
        | false =>
          have hv : signAt s.data.toList 1 = false := by unfold signAt; rw [hin]; simp
          rw [hin] at hl
          have Hv := Lib.hid hv; clear hv hin hsz2
          go_wp2
          go_quiet (fail)
          go_wp2
          go_roundw
          case rel => exact ⟨4, by omega, rfl, below_drewN Hb.out _, fun m h1 h2 => by
            by_cases e : m = 1
            · rw [e]; exact Hv.out
            · exact Hno.out m (by omega) h2⟩
          case measure => simp [intOf]
      · have hv : signAt s.data.toList 1 = false := by unfold signAt; rw [decide_eq_false (by rw [show s.data.toList.length = s.size by simp]; exact hn)]; rfl
        have Hv := Lib.hid hv; clear hv
        have d1 : decide ((1 : Int) ≤ s.size) = false := decide_eq_false (by omega)
        have d1' : decide (1 ≤ s.size) = false := decide_eq_false hn
        go_wp2
        go_quiet (fail)
        go_wp2
        go_roundw
        case rel => exact ⟨4, by omega, rfl, below_drewN Hb.out _, fun m h1 h2 => by
          by_cases e : m = 1
          · rw [e]; exact Hv.out
          · exact Hno.out m (by omega) h2⟩
        case measure => simp [intOf]
end Go.Proofs.YtokdoklkaojheaaDoor

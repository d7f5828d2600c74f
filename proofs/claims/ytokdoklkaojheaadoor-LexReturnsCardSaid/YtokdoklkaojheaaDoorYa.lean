import Derived.Test.YtokdoklkaojheaaDoorWt
namespace Go.Proofs.YtokdoklkaojheaaDoor
open Go.RowKit

/-- the scanner of names alone: its signs are a nil map -/
def IsKw (w : World) (kb : Nat) : Prop := w.heap[kb]? = some (setObjOf kwL) ∧ w.heap[kb]? = some (setObjOf kwL)
theorem IsKw.lt {w : World} {kb : Nat} (h : IsKw w kb) : kb < w.heap.size ∧ kb < w.heap.size :=
  ⟨(Array.getElem?_eq_some_iff.1 h.1).1, (Array.getElem?_eq_some_iff.1 h.2).1⟩
theorem IsKw.below {w w' : World} {kb B : Nat} (h : IsKw w kb) (h1 : kb < B) (h2 : kb < B) (hb : Below B w w') : IsKw w' kb :=
  ⟨(hb.block _ h1).trans h.1, (hb.block _ h2).trans h.2⟩

theorem kw_inN (s : ByteArray) (kb : Nat) (w : World) (hsc : IsKw w kb) (h : s.data.toList ∈ kwL) :
    Calls Tryd.prog 110 #[.agg #[.map (some kb), .map none], .string s] w fun e w' => e = .returned (.bool true) ∧ Below w.heap.size w w' := by
  have hl := run_look s kb kwL (w.alloc (.cells #[.map (some kb), .map none] 69)) ((heap_alloc_lt hsc.lt.1).trans hsc.1)
  rw [decide_eq_true h] at hl
  clear h hsc
  go_enter Tryd.func110, Tryd.ntmps110
  go_wp2
  go_ret
  exact ⟨rfl, (Below.refl _ _).alloc (Nat.le_refl _) _⟩

theorem kw_noN (s : ByteArray) (kb : Nat) (w : World) (hsc : IsKw w kb) (h : s.data.toList ∉ kwL) (hp : Lib.hasPrefix s.data.toList [98, 118] = false) :
    Calls Tryd.prog 110 #[.agg #[.map (some kb), .map none], .string s] w fun e w' => e = .returned (.bool false) ∧ Below w.heap.size w w' := by
  have hl := run_look s kb kwL (w.alloc (.cells #[.map (some kb), .map none] 69)) ((heap_alloc_lt hsc.lt.1).trans hsc.1)
  rw [decide_eq_false h] at hl
  have c := cutPrefix_any s ⟨#[98, 118]⟩
  rw [show (⟨#[98, 118]⟩ : ByteArray).data.toList = [98, 118] from rfl, hp] at c
  have C := Lib.hid c
  clear h hsc hp c
  go_enter Tryd.func110, Tryd.ntmps110
  go_wp2_with fail
  refine (C.out _).mono ?_; rintro e w1 ⟨rfl, rfl⟩
  go_wp2
  go_ret
  exact ⟨rfl, (Below.refl _ _).alloc (Nat.le_refl _) _⟩

set_option maxHeartbeats 1000000 in
set_option maxRecDepth 100000 in
theorem kw_bvN (s : ByteArray) (kb : Nat) (w : World) (hs : s.size ≤ 9223372036854775807) (hsc : IsKw w kb) (h : s.data.toList ∉ kwL) (hp : Lib.hasPrefix s.data.toList [98, 118] = true) :
    Calls Tryd.prog 110 #[.agg #[.map (some kb), .map none], .string s] w fun e w' => e = .returned (.bool (bitsW (Lib.trimPrefix s.data.toList [98, 118]))) ∧ Below w.heap.size w w' := by
  have hl := run_look s kb kwL (w.alloc (.cells #[.map (some kb), .map none] 69)) ((heap_alloc_lt hsc.lt.1).trans hsc.1)
  rw [decide_eq_false h] at hl
  have c := cutPrefix_any s ⟨#[98, 118]⟩
  rw [show (⟨#[98, 118]⟩ : ByteArray).data.toList = [98, 118] from rfl, hp] at c
  have hwl : (Lib.trimPrefix s.data.toList [98, 118]).length ≤ s.size := by
    unfold Lib.trimPrefix; split <;> simp
  obtain ⟨wd, hwd⟩ : ∃ wd, Lib.trimPrefix s.data.toList [98, 118] = wd := ⟨_, rfl⟩
  rw [hwd] at c hwl ⊢
  obtain ⟨D, hD⟩ : ∃ D : ByteArray, (⟨wd.toArray⟩ : ByteArray) = D := ⟨_, rfl⟩
  rw [hD] at c
  have hDl : D.data.toList = wd := by rw [← hD]
  have hDs : D.size = wd.length := by rw [← hD]; rfl
  have C := Lib.hid c
  have HDl := Lib.hid hDl
  have HDs := Lib.hid hDs
  have hDle : D.size ≤ 9223372036854775807 := by omega
  clear h hsc hp c hwd hD hDl hDs
  by_cases h1 : 2 < wd.length
  · have d1 : decide ((2 : Int) < D.size) = true := by have := HDs.out; simp; omega
    have hv : bitsW wd = false := by unfold bitsW; rw [if_pos h1]
    rw [hv]
    clear hv h1
    go_enter Tryd.func110, Tryd.ntmps110
    go_wp2_with fail
    refine (C.out _).mono ?_; rintro e w1 ⟨rfl, rfl⟩
    go_wp2
    go_ret
    exact ⟨rfl, (Below.refl _ _).alloc (Nat.le_refl _) _⟩
  · have d1 : decide ((2 : Int) < D.size) = false := by have := HDs.out; simp; omega
    have hD2 : D.size ≤ 2 := by have := HDs.out; omega
    have cd := fun w => preDig D w hDle
    rw [HDl.out] at cd
    have htl := tw_le isDigB wd
    by_cases h2 : tw isDigB wd < wd.length
    · have hv : bitsW wd = false := by unfold bitsW; rw [if_neg h1, if_pos h2]
      rw [hv]
      obtain ⟨t, ht⟩ : ∃ t, tw isDigB wd = t := ⟨_, rfl⟩
      rw [ht] at cd
      have d2 : decide ((t : Int) < D.size) = true := by have := HDs.out; simp; omega
      have d3 : decide (t < D.size) = true := by have := HDs.out; simp; omega
      have Cd := Lib.hid cd
      clear hv h1 h2 cd ht htl
      go_enter Tryd.func110, Tryd.ntmps110
      go_wp2_with fail
      refine (C.out _).mono ?_; rintro e w1 ⟨rfl, rfl⟩
      go_wp2_with fail
      refine (Cd.out _).mono ?_; rintro e w1 ⟨rfl, hb⟩
      have Hb := Lib.hid hb; clear hb
      go_wp2
      go_ret
      exact ⟨rfl, ((Below.refl _ _).alloc (Nat.le_refl _) _).trans (Hb.out.mono (by simp))⟩
    · obtain ⟨t, ht⟩ : ∃ t, tw isDigB wd = t := ⟨_, rfl⟩
      rw [ht] at cd
      have d2 : decide ((t : Int) < D.size) = false := by have := HDs.out; simp; omega
      have d3 : decide (t < D.size) = false := by have := HDs.out; simp; omega
      have Cd := Lib.hid cd
      have cp := hasPrefix_any D ⟨#[48]⟩
      rw [show (⟨#[48]⟩ : ByteArray).data.toList = [48] from rfl, HDl.out] at cp
      by_cases h3 : Lib.hasPrefix wd [48] = true
      · have hv : bitsW wd = false := by unfold bitsW; rw [if_neg h1, if_neg h2, if_pos h3]
        rw [hv]
        rw [h3] at cp
        have Cp := Lib.hid cp
        clear hv h1 h2 cd ht htl h3 cp
        go_enter Tryd.func110, Tryd.ntmps110
        go_wp2_with fail
        refine (C.out _).mono ?_; rintro e w1 ⟨rfl, rfl⟩
        go_wp2_with fail
        refine (Cd.out _).mono ?_; rintro e w1 ⟨rfl, hb⟩
        have Hb := Lib.hid hb; clear hb
        go_wp2_with fail
        refine (Cp.out _).mono ?_; rintro e w2 ⟨rfl, rfl⟩
        go_wp2
        go_ret
        exact ⟨rfl, ((Below.refl _ _).alloc (Nat.le_refl _) _).trans (Hb.out.mono (by simp))⟩
      · have h3' : Lib.hasPrefix wd [48] = false := by simpa using h3
        have hv : bitsW wd = decide (1 ≤ num wd ∧ num wd ≤ 64) := by unfold bitsW; rw [if_neg h1, if_neg h2, if_neg h3]
        rw [hv]
        rw [h3'] at cp
        have Cp := Lib.hid cp
        have hall : ∀ i, i < D.size → isDigB (D.get! i) = true := by
          intro i hi
          have := tw_full isDigB wd h2 i (by have := HDs.out; omega)
          rw [get!_at D i hi]
          have hDl := HDl.out
          subst hDl
          exact this
        have Hall := Lib.hid hall
        have hnk : ∀ k, k < D.size → num (D.data.toList.take k) ≤ 9 := by
          intro k hk
          have : k = 0 ∨ k = 1 := by omega
          rcases this with rfl | rfl
          · simp [num]
          · have := num_step D 0 (by omega) (hall 0 (by omega))
            simp [num] at this ⊢; omega
        have hn2 : num D.data.toList ≤ 99 := by
          rcases Nat.eq_zero_or_pos D.size with h | h
          · have : D.data.toList = [] := by have := HDs.out; have h4 := HDl.out; rw [h4]; exact List.length_eq_zero_iff.1 (by omega)
            rw [this]; simp [num]
          · have h5 := num_step D (D.size - 1) (by omega) (hall _ (by omega))
            have h6 := hnk (D.size - 1) (by omega)
            rw [show D.size - 1 + 1 = D.size by omega, List.take_of_length_le (by simp)] at h5
            omega
        have Hnk := Lib.hid hnk
        clear hv h1 h2 cd ht htl h3 h3' cp hall hnk
        go_enter Tryd.func110, Tryd.ntmps110
        go_wp2_with fail
        refine (C.out _).mono ?_; rintro e w1 ⟨rfl, rfl⟩
        go_wp2_with fail
        refine (Cd.out _).mono ?_; rintro e w1 ⟨rfl, hb⟩
        have Hb := Lib.hid hb; clear hb
        go_wp2_with fail
        refine (Cp.out _).mono ?_; rintro e w2 ⟨rfl, rfl⟩
        go_wp2
        go_loopg [7] D.size (fun g n wx => ∃ k : Nat, k ≤ D.size ∧ wx = w1.iter D k ∧ n = .int .i64 (num (D.data.toList.take k)) ∧ D.size ≤ k + g)
        case atStart => exact ⟨0, by omega, rfl, rfl, by omega⟩
        case round =>
          obtain ⟨k, hk, rfl, rfl, hfu⟩ := hrel
          by_cases hlt : k < D.size
          · obtain ⟨g, rfl⟩ : ∃ g, gk = g + 1 := ⟨gk - 1, by omega⟩
            obtain ⟨hst, hc1, hc2⟩ := num_step D k hlt (Hall.out k hlt)
            have hnk := Hnk.out k hlt
            have hnx : ∀ ty, (Instr.next (.pointer (some ⟨w1.heap.size, 0, none⟩)) true ty).run Tryd.prog (w1.iter D k) = _ := fun ty => run_next_ascii w1 D k ty hlt (by omega)
            obtain ⟨c, hc⟩ : ∃ c, (D[k]'hlt).toNat = c := ⟨_, rfl⟩
            rw [hc] at hst hc1 hc2 hnx
            have Hst := Lib.hid hst; clear hst hc
            obtain ⟨m, hm⟩ : ∃ m, num (D.data.toList.take k) = m := ⟨_, rfl⟩
            rw [hm] at hnk ⊢
            have Hm := Lib.hid hm; clear hm
            go_wp2
            go_roundg g
            case measure => omega
            case rel => exact ⟨k + 1, by omega, rfl, int_v (by rw [Hst.out, Hm.out]; omega), by omega⟩
          · have hnx : ∀ ty, (Instr.next (.pointer (some ⟨w1.heap.size, 0, none⟩)) true ty).run Tryd.prog (w1.iter D k) = _ := fun ty => run_next_end w1 D k ty hlt
            rw [List.take_of_length_le (show D.data.toList.length ≤ k by simp; omega)]
            have hnd := HDl.out
            rw [hnd] at hn2 ⊢
            clear hnd
            obtain ⟨m, hm⟩ : ∃ m, num wd = m := ⟨_, rfl⟩
            rw [hm] at hn2 ⊢
            have Hm := Lib.hid hm; clear hm
            have hbw : Below w.heap.size w (w1.iter D k) := (((Below.refl _ _).alloc (Nat.le_refl _) _).trans (Hb.out.mono (by simp))).alloc (by have := Hb.out.size; simp at this; omega) _
            have Hbw := Lib.hid hbw; clear hbw
            by_cases h5 : 1 ≤ m
            · have d5 : decide ((1 : Int) ≤ m) = true := by simp; omega
              by_cases h6 : m ≤ 64
              · have d6 : decide ((m : Int) ≤ 64) = true := by simp; omega
                go_wp2
                go_ret
                exact ⟨by rw [Hm.out, decide_eq_true ⟨h5, h6⟩]; rfl, Hbw.out⟩
              · have d6 : decide ((m : Int) ≤ 64) = false := by simp; omega
                go_wp2
                go_ret
                exact ⟨by rw [Hm.out, decide_eq_false (fun h => h6 h.2)]; rfl, Hbw.out⟩
            · have d5 : decide ((1 : Int) ≤ m) = false := by simp; omega
              go_wp2
              go_ret
              exact ⟨by rw [Hm.out, decide_eq_false (fun h => h5 h.1)]; rfl, Hbw.out⟩

theorem isKeyword_anyN (s : ByteArray) (kb : Nat) (w : World) (hs : s.size ≤ 9223372036854775807) (hsc : IsKw w kb) :
    Calls Tryd.prog 110 #[.agg #[.map (some kb), .map none], .string s] w fun e w' => e = .returned (.bool (kwB s.data.toList)) ∧ Below w.heap.size w w' := by
  unfold kwB
  by_cases h : s.data.toList ∈ kwL
  · rw [decide_eq_true h]; exact kw_inN s kb w hsc h
  · rw [decide_eq_false h]
    cases hp : Lib.hasPrefix s.data.toList [98, 118] with
    | false => exact kw_noN s kb w hsc h hp
    | true => exact kw_bvN s kb w hs hsc h hp

set_option maxHeartbeats 1000000 in
set_option maxRecDepth 100000 in
theorem word_anyN (s : ByteArray) (kb : Nat) (w : World) (hs : s.size ≤ 65536) (hsc : IsKw w kb) :
    Calls Tryd.prog 84 #[.agg #[.map (some kb), .map none], .string s] w fun e w' => e = .returned (rdV s (wordR s.data.toList)) ∧ Below w.heap.size w w' := by
  have hle : wlen s.data.toList ≤ s.size := by have := wlen_le s.data.toList; simpa using this
  unfold wordR
  have cw := fun w => wordLength_any s w (by omega)
  have Hsc := Lib.hid hsc
  have hlt := hsc.lt
  obtain ⟨n, hn⟩ : ∃ n, wlen s.data.toList = n := ⟨_, rfl⟩
  rw [hn] at cw hle ⊢
  have Cw := Lib.hid cw
  clear cw hn hsc
  by_cases h1 : 24 < n
  · rw [if_pos h1]
    go_enter Tryd.func84, Tryd.ntmps84
    go_wp2_with fail
    refine (Cw.out _).mono ?_; rintro e w1 ⟨rfl, hb⟩
    obtain ⟨hc, hf⟩ := bcell hb
    have hz : w.heap.size + 1 < w1.heap.size := by have := hb.size; simp at this; omega
    have Hb := Lib.hid hb; clear hb
    go_wp2
    refine bodyPost_ret (v := rdV s (0, 0, 6)) ?_ rfl ⟨rfl, ?_⟩
    · simp [results, Tryd.results84, go_sem, hc, hz]
      simp [rdV, plV, extract_zero]; rfl
    · exact below_pl (below_call Hb.out) (by omega) _ _ _ _
  · rw [if_neg h1]
    have ck := fun w h => isKeyword_anyN (s.extract 0 n) kb w (by simp; omega) h
    rw [show (s.extract 0 n).data.toList = s.data.toList.take n by rw [Lib.extract_data]; simp] at ck
    cases hkw : kwB (s.data.toList.take n) with
    | true =>
      rw [hkw] at ck
      have Ck := Lib.hid ck; clear ck hkw
      go_enter Tryd.func84, Tryd.ntmps84
      go_wp2_with fail
      refine (Cw.out _).mono ?_; rintro e w1 ⟨rfl, hb⟩
      obtain ⟨hc, hf⟩ := bcell hb
      have hz : w.heap.size + 1 < w1.heap.size := by have := hb.size; simp at this; omega
      have hsc1 : IsKw w1 kb := Hsc.out.below hlt.1 hlt.2 (below_call hb)
      have Hb := Lib.hid hb; clear hb
      have Hsc1 := Lib.hid hsc1; clear hsc1
      go_wp2
      have hk0 : w1.cell? ⟨w.heap.size, 0, none⟩ = some (.map (some kb)) := by
        rw [hc _ _ (by simp; omega)]; simp [World.cell?_alloc_lt]
      have hk1 : w1.cell? ⟨w.heap.size, 1, none⟩ = some (.map none) := by
        rw [hc _ _ (by simp; omega)]; simp [World.cell?_alloc_lt]
      go_region_held3 (fun w' => w'.cell? ⟨w.heap.size, 0, none⟩ = some (.map (some kb)) ∧ w'.cell? ⟨w.heap.size, 1, none⟩ = some (.map none)) (first | exact ⟨hq0, hq1⟩ | exact ⟨hk0, hk1⟩ | go_keep)
        (first | (go_at_call 110; refine (Ck.out _ (by exact Hsc1.out)).mono ?_; rintro e w2 ⟨rfl, hb2⟩; have hq0 := cell_later hb2 hk0; have hq1 := cell_later hb2 hk1))
      have hbig2 := Hb.out.trans ((below_undrew hb2).mono Hb.out.size)
      clear hc hf hk0 hk1 hq0 hq1 hz
      have Hbig2 := Lib.hid hbig2; clear hbig2 hb2
      go_wp2_with fail
      refine (place_any s 1 n _ hle (by omega)).mono ?_; rintro e w3 ⟨rfl, hb3⟩
      simp only [plV]
      have hbig3 := Hbig2.out.trans (hb3.mono Hbig2.out.size)
      obtain ⟨hc, hf⟩ := bcell hbig3
      have hz : w.heap.size + 1 < w3.heap.size := by have := hbig3.size; simp at this; omega
      have Hbig3 := Lib.hid hbig3; clear hbig3 hb3
      go_wp2
      refine bodyPost_ret (v := rdV s (1, n, 0)) ?_ rfl ⟨rfl, ?_⟩
      · simp [results, Tryd.results84, go_sem, hc, hz]
        simp [rdV, plV]
      · exact below_pl (below_call Hbig3.out) (by omega) _ _ _ _
    | false =>
      rw [hkw] at ck
      have Ck := Lib.hid ck; clear ck hkw
      go_enter Tryd.func84, Tryd.ntmps84
      go_wp2_with fail
      refine (Cw.out _).mono ?_; rintro e w1 ⟨rfl, hb⟩
      obtain ⟨hc, hf⟩ := bcell hb
      have hz : w.heap.size + 1 < w1.heap.size := by have := hb.size; simp at this; omega
      have hsc1 : IsKw w1 kb := Hsc.out.below hlt.1 hlt.2 (below_call hb)
      have Hb := Lib.hid hb; clear hb
      have Hsc1 := Lib.hid hsc1; clear hsc1
      go_wp2
      have hk0 : w1.cell? ⟨w.heap.size, 0, none⟩ = some (.map (some kb)) := by
        rw [hc _ _ (by simp; omega)]; simp [World.cell?_alloc_lt]
      have hk1 : w1.cell? ⟨w.heap.size, 1, none⟩ = some (.map none) := by
        rw [hc _ _ (by simp; omega)]; simp [World.cell?_alloc_lt]
      go_region_held3 (fun w' => w'.cell? ⟨w.heap.size, 0, none⟩ = some (.map (some kb)) ∧ w'.cell? ⟨w.heap.size, 1, none⟩ = some (.map none)) (first | exact ⟨hq0, hq1⟩ | exact ⟨hk0, hk1⟩ | go_keep)
        (first | (go_at_call 110; refine (Ck.out _ (by exact Hsc1.out)).mono ?_; rintro e w2 ⟨rfl, hb2⟩; have hq0 := cell_later hb2 hk0; have hq1 := cell_later hb2 hk1))
      have hbig2 := Hb.out.trans ((below_undrew hb2).mono Hb.out.size)
      clear hc hf hk0 hk1 hq0 hq1 hz
      have Hbig2 := Lib.hid hbig2; clear hbig2 hb2
      go_wp2_with fail
      refine (place_any s 0 n _ hle (by omega)).mono ?_; rintro e w3 ⟨rfl, hb3⟩
      simp only [plV]
      have hbig3 := Hbig2.out.trans (hb3.mono Hbig2.out.size)
      obtain ⟨hc, hf⟩ := bcell hbig3
      have hz : w.heap.size + 1 < w3.heap.size := by have := hbig3.size; simp at this; omega
      have Hbig3 := Lib.hid hbig3; clear hbig3 hb3
      go_wp2
      refine bodyPost_ret (v := rdV s (0, n, 0)) ?_ rfl ⟨rfl, ?_⟩
      · simp [results, Tryd.results84, go_sem, hc, hz]
        simp [rdV, plV]
      · exact below_pl (below_call Hbig3.out) (by omega) _ _ _ _

set_option maxHeartbeats 1000000 in
set_option maxRecDepth 100000 in
theorem qual_outN (s : ByteArray) (kb : Nat) (w : World) (hs : s.size ≤ 65536) (h : qualIn s.data.toList (wlen s.data.toList) = false) :
    Calls Tryd.prog 83 #[.agg #[.map (some kb), .map none], .string s] w fun e w' => e = .returned (rdV s (0, 0, 0)) ∧ Below w.heap.size w w' := by
  have hle : wlen s.data.toList ≤ s.size := by have := wlen_le s.data.toList; simpa using this
  have cw := fun w => wordLength_any s w (by omega)
  obtain ⟨n, hn⟩ : ∃ n, wlen s.data.toList = n := ⟨_, rfl⟩
  rw [hn] at cw hle h
  have Cw := Lib.hid cw
  clear cw hn
  by_cases h0 : n = 0
  · subst h0
    clear h
    go_enter Tryd.func83, Tryd.ntmps83
    go_wp2_with fail
    refine (Cw.out _).mono ?_; rintro e w1 ⟨rfl, hb⟩
    obtain ⟨hc, hf⟩ := bcell hb
    have hz : w.heap.size + 1 < w1.heap.size := by have := hb.size; simp at this; omega
    have Hb := Lib.hid hb; clear hb
    go_wp2
    refine bodyPost_ret (v := rdV s (0, 0, 0)) ?_ rfl ⟨rfl, ?_⟩
    · simp [results, Tryd.results83, go_sem, hc, hz]
      simp [rdV, plV, extract_zero]; rfl
    · exact below_pl (below_call Hb.out) (by omega) _ _ _ _
  · have d0 : ((n : Int) == 0) = false := by simp; omega
    by_cases h1 : 24 < n
    · have d1 : decide ((24 : Int) < n) = true := by simp; omega
      have d1' : decide (24 < n) = true := by simp; omega
      clear h
      go_enter Tryd.func83, Tryd.ntmps83
      go_wp2_with fail
      refine (Cw.out _).mono ?_; rintro e w1 ⟨rfl, hb⟩
      obtain ⟨hc, hf⟩ := bcell hb
      have hz : w.heap.size + 1 < w1.heap.size := by have := hb.size; simp at this; omega
      have Hb := Lib.hid hb; clear hb
      go_wp2
      refine bodyPost_ret (v := rdV s (0, 0, 0)) ?_ rfl ⟨rfl, ?_⟩
      · simp [results, Tryd.results83, go_sem, hc, hz]
        simp [rdV, plV, extract_zero]; rfl
      · exact below_pl (below_call Hb.out) (by omega) _ _ _ _
    · have d1 : decide ((24 : Int) < n) = false := by simp; omega
      have d1' : decide (24 < n) = false := by simp; omega
      have hp0 : 0 < s.size := by omega
      have hg := getD_zero s hp0
      unfold qualIn at h
      rw [hg] at h
      by_cases h2 : (s[0]'hp0).toNat < 97
      · have d2 : decide ((97 : Int) ≤ ((s[0]'hp0).toNat : Int)) = false := by simp; omega
        rw [decide_eq_true ⟨h0, by omega, h2⟩, Bool.true_and] at h
        have cp := hasPrefix_any (s.extract n s.size) ⟨#[58, 58]⟩
        rw [Lib.extract_to_end, show (⟨#[58, 58]⟩ : ByteArray).data.toList = [58, 58] from rfl, h] at cp
        have Cp := Lib.hid cp
        clear h h0 h1 h2 hg cp
        go_enter Tryd.func83, Tryd.ntmps83
        go_wp2_with fail
        refine (Cw.out _).mono ?_; rintro e w1 ⟨rfl, hb⟩
        obtain ⟨hc, hf⟩ := bcell hb
        have hz : w.heap.size + 1 < w1.heap.size := by have := hb.size; simp at this; omega
        have Hb := Lib.hid hb; clear hb
        go_wp2_with fail
        refine (Cp.out _).mono ?_; rintro e w2 ⟨rfl, rfl⟩
        go_wp2
        refine bodyPost_ret (v := rdV s (0, 0, 0)) ?_ rfl ⟨rfl, ?_⟩
        · simp [results, Tryd.results83, go_sem, hc, hz]
          simp [rdV, plV, extract_zero]; rfl
        · exact below_pl (below_call Hb.out) (by omega) _ _ _ _
      · have d2 : decide ((97 : Int) ≤ ((s[0]'hp0).toNat : Int)) = true := by simp; omega
        clear h h0 h1 h2 hg
        go_enter Tryd.func83, Tryd.ntmps83
        go_wp2_with fail
        refine (Cw.out _).mono ?_; rintro e w1 ⟨rfl, hb⟩
        obtain ⟨hc, hf⟩ := bcell hb
        have hz : w.heap.size + 1 < w1.heap.size := by have := hb.size; simp at this; omega
        have Hb := Lib.hid hb; clear hb
        go_wp2
        refine bodyPost_ret (v := rdV s (0, 0, 0)) ?_ rfl ⟨rfl, ?_⟩
        · simp [results, Tryd.results83, go_sem, hc, hz]
          simp [rdV, plV, extract_zero]; rfl
        · exact below_pl (below_call Hb.out) (by omega) _ _ _ _
end Go.Proofs.YtokdoklkaojheaaDoor

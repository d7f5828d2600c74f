import Derived.Test.YtokdoklkaojheaaDoorWn
namespace Go.Proofs.YtokdoklkaojheaaDoor
open Go.RowKit

theorem below_drewN {B : Nat} {a w : World} (h : Below B a w) (n : Nat) : Below B a (w.drewN n) := ⟨h.os, h.tape, h.output, h.size, h.block⟩

set_option maxHeartbeats 2000000 in
set_option maxRecDepth 100000 in
theorem qual_in (s : ByteArray) (kb sb : Nat) (w : World) (hs : s.size ≤ 65536) (hsc : IsScanner w kb sb) (h : qualIn s.data.toList (wlen s.data.toList) = true) :
    Calls Tryd.prog 83 #[.agg #[.map (some kb), .map (some sb)], .string s] w fun e w' => e = .returned (rdV s (qualR s.data.toList)) ∧ Below w.heap.size w w' := by
  have hle : wlen s.data.toList ≤ s.size := by have := wlen_le s.data.toList; simpa using this
  unfold qualR
  rw [if_neg (by rw [h]; simp)]
  have Hsc := Lib.hid hsc
  have hlt := hsc.lt
  clear hsc
  have cw := fun w => wordLength_any s w (by omega)
  obtain ⟨n, hn⟩ : ∃ n, wlen s.data.toList = n := ⟨_, rfl⟩
  rw [hn] at cw hle h ⊢
  have Cw := Lib.hid cw
  clear cw hn
  unfold qualIn at h
  have hpre : Lib.hasPrefix (s.data.toList.drop n) [58, 58] = true := by
    cases hx : Lib.hasPrefix (s.data.toList.drop n) [58, 58] with
    | true => rfl
    | false => rw [hx] at h; simp at h
  rw [hpre, Bool.and_true] at h
  obtain ⟨h0, h1, h2⟩ := of_decide_eq_true h
  have hp0 : 0 < s.size := by omega
  rw [getD_zero s hp0] at h2
  have hst : n + 2 ≤ s.size := by have := hasPrefix_len hpre; simp at this; omega
  have d0 : ((n : Int) == 0) = false := by simp; omega
  have d1 : decide ((24 : Int) < n) = false := by simp; omega
  have d1' : decide (24 < n) = false := by simp; omega
  have d2 : decide ((97 : Int) ≤ ((s[0]'hp0).toNat : Int)) = false := by simp; omega
  have cp := hasPrefix_any (s.extract n s.size) ⟨#[58, 58]⟩
  rw [Lib.extract_to_end, show (⟨#[58, 58]⟩ : ByteArray).data.toList = [58, 58] from rfl, hpre] at cp
  have Cp := Lib.hid cp
  have cm := fun w => wordLength_any (s.extract (n + 2) s.size) w (by simp; omega)
  rw [Lib.extract_to_end] at cm
  have hml : wlen (s.data.toList.drop (n + 2)) ≤ s.size - (n + 2) := by have := wlen_le (s.data.toList.drop (n + 2)); simpa using this
  obtain ⟨m, hm⟩ : ∃ m, wlen (s.data.toList.drop (n + 2)) = m := ⟨_, rfl⟩
  rw [hm] at cm hml ⊢
  have Cm := Lib.hid cm
  have hmle : n + 2 + m ≤ s.size := by omega
  have hi1 : ((n : Int) + 2 + (m : Int)) ≤ (s.size : Int) := by omega
  have hi2 : ((n : Int) + 2) ≤ (n : Int) + 2 + (m : Int) := by omega
  have hi3 : (0 : Int) ≤ (n : Int) + 2 := by omega
  clear h h2 cp cm hm hml hpre h0
  by_cases h3 : 24 < m
  · rw [if_pos h3]
    have d3 : decide ((24 : Int) < m) = true := by simp; omega
    have d3' : decide (24 < m) = true := by simp; omega
    clear h3
    go_enter Tryd.func83, Tryd.ntmps83
    go_wp2_with fail
    refine (Cw.out _).mono ?_; rintro e w1 ⟨rfl, hb⟩
    have Hb := Lib.hid hb; clear hb
    go_wp2_with fail
    refine (Cp.out _).mono ?_; rintro e w2 ⟨rfl, rfl⟩
    go_wp2_with fail
    refine (Cm.out _).mono ?_; rintro e w2 ⟨rfl, hb2⟩
    have hbig := Hb.out.trans (hb2.mono Hb.out.size)
    clear hb2
    obtain ⟨hc, hf⟩ := bcell hbig
    have hz : w.heap.size + 1 < w2.heap.size := by have := hbig.size; simp at this; omega
    have Hbig := Lib.hid hbig; clear hbig
    go_wp2
    refine bodyPost_ret (v := rdV s (0, 0, 6)) ?_ rfl ⟨rfl, ?_⟩
    · simp [results, Tryd.results83, go_sem, hc, hz]
      simp [rdV, plV, extract_zero] <;> rfl
    · exact below_pl (below_call Hbig.out) (by omega) _ _ _ _
  · rw [if_neg h3]
    have d3 : decide ((24 : Int) < m) = false := by simp; omega
    have d3' : decide (24 < m) = false := by simp; omega
    by_cases h4 : m = 0
    · rw [if_pos (Or.inl h4)]
      subst h4
      clear h3 d3 d3'
      go_enter Tryd.func83, Tryd.ntmps83
      go_wp2_with fail
      refine (Cw.out _).mono ?_; rintro e w1 ⟨rfl, hb⟩
      have Hb := Lib.hid hb; clear hb
      go_wp2_with fail
      refine (Cp.out _).mono ?_; rintro e w2 ⟨rfl, rfl⟩
      go_wp2_with fail
      refine (Cm.out _).mono ?_; rintro e w2 ⟨rfl, hb2⟩
      have hbig := Hb.out.trans (hb2.mono Hb.out.size)
      clear hb2
      obtain ⟨hc, hf⟩ := bcell hbig
      have hz : w.heap.size + 1 < w2.heap.size := by have := hbig.size; simp at this; omega
      have Hbig := Lib.hid hbig; clear hbig
      go_wp2
      go_quiet (fail)
      go_wp2
      refine bodyPost_ret (v := rdV s (0, 0, 0)) ?_ rfl ⟨rfl, ?_⟩
      · simp [results, Tryd.results83, go_sem, hc, hz]
        simp [rdV, plV, extract_zero] <;> rfl
      · exact below_pl (below_drewN (below_call Hbig.out) _) (by omega) _ _ _ _
    · have d4 : ((m : Int) == 0) = false := by simp; omega
      have ck := fun w h => isKeyword_any (s.extract (n + 2) (n + 2 + m)) kb sb w (by simp; omega) h
      rw [show (s.extract (n + 2) (n + 2 + m)).data.toList = (s.data.toList.drop (n + 2)).take m by rw [Lib.extract_data]; congr 1; omega] at ck
      cases hkw : kwB ((s.data.toList.drop (n + 2)).take m) with
      | true =>
        rw [hkw] at ck
        rw [if_pos (Or.inr rfl)]
        have Ck := Lib.hid ck; clear ck hkw h3 h4
        go_enter Tryd.func83, Tryd.ntmps83
        go_wp2_with fail
        refine (Cw.out _).mono ?_; rintro e w1 ⟨rfl, hb⟩
        have Hb := Lib.hid hb; clear hb
        go_wp2_with fail
        refine (Cp.out _).mono ?_; rintro e w2 ⟨rfl, rfl⟩
        go_wp2_with fail
        refine (Cm.out _).mono ?_; rintro e w2 ⟨rfl, hb2⟩
        have hbig := Hb.out.trans (hb2.mono Hb.out.size)
        clear hb2
        obtain ⟨hc, hf⟩ := bcell hbig
        have hz : w.heap.size + 1 < w2.heap.size := by have := hbig.size; simp at this; omega
        have hsc2 : IsScanner w2 kb sb := Hsc.out.below hlt.1 hlt.2 (below_call hbig)
        have Hsc2 := Lib.hid hsc2; clear hsc2
        have Hbig := Lib.hid hbig; clear hbig
        go_wp2
        have hk0 : w2.cell? ⟨w.heap.size, 0, none⟩ = some (.map (some kb)) := by
          rw [hc _ _ (by simp; omega)]; simp [World.cell?_alloc_lt]
        have hk1 : w2.cell? ⟨w.heap.size, 1, none⟩ = some (.map (some sb)) := by
          rw [hc _ _ (by simp; omega)]; simp [World.cell?_alloc_lt]
        have hw1 : IntKind.i64.wrap ((n : Int) + 2 + (m : Int)) = (n : Int) + 2 + (m : Int) := IntWalk.i64_in _ (by omega)
        have hw2 : ((n : Int) + 2 + (m : Int)).toNat = n + 2 + m := by omega
        have hw3 : ((n : Int) + 2).toNat = n + 2 := by omega
        have hw4 : (0 : Int) ≤ (n : Int) + 2 + (m : Int) := by omega
        go_region_held3 (fun w' => w'.cell? ⟨w.heap.size, 0, none⟩ = some (.map (some kb)) ∧ w'.cell? ⟨w.heap.size, 1, none⟩ = some (.map (some sb))) (first | exact ⟨hq0, hq1⟩ | exact ⟨hk0, hk1⟩ | go_keep)
          (first | (go_at_call 110; refine (Ck.out _ (by exact Hsc2.out)).mono ?_; rintro e w3 ⟨rfl, hb3⟩; have hq0 := cell_later hb3 hk0; have hq1 := cell_later hb3 hk1))
        have hbig3 := Hbig.out.trans ((below_undrew hb3).mono Hbig.out.size)
        clear hc hf hk0 hk1 hq0 hq1 hz Hbig hw1 hw2 hw3 hw4
        obtain ⟨hc, hf⟩ := bcell hbig3
        have hz : w.heap.size + 1 < w3.heap.size := by have := hbig3.size; simp at this; omega
        have Hbig := Lib.hid hbig3; clear hbig3 hb3
        go_wp2
        refine bodyPost_ret (v := rdV s (0, 0, 0)) ?_ rfl ⟨rfl, ?_⟩
        · simp [results, Tryd.results83, go_sem, hc, hz]
          simp [rdV, plV, extract_zero] <;> rfl
        · exact below_pl (below_call Hbig.out) (by omega) _ _ _ _
      | false =>
        rw [hkw] at ck
        rw [if_neg (by simp; omega)]
        have Ck := Lib.hid ck; clear ck hkw h3 h4
        go_enter Tryd.func83, Tryd.ntmps83
        go_wp2_with fail
        refine (Cw.out _).mono ?_; rintro e w1 ⟨rfl, hb⟩
        have Hb := Lib.hid hb; clear hb
        go_wp2_with fail
        refine (Cp.out _).mono ?_; rintro e w2 ⟨rfl, rfl⟩
        go_wp2_with fail
        refine (Cm.out _).mono ?_; rintro e w2 ⟨rfl, hb2⟩
        have hbig := Hb.out.trans (hb2.mono Hb.out.size)
        clear hb2
        obtain ⟨hc, hf⟩ := bcell hbig
        have hz : w.heap.size + 1 < w2.heap.size := by have := hbig.size; simp at this; omega
        have hsc2 : IsScanner w2 kb sb := Hsc.out.below hlt.1 hlt.2 (below_call hbig)
        have Hsc2 := Lib.hid hsc2; clear hsc2
        have Hbig := Lib.hid hbig; clear hbig
        go_wp2
        have hk0 : w2.cell? ⟨w.heap.size, 0, none⟩ = some (.map (some kb)) := by
          rw [hc _ _ (by simp; omega)]; simp [World.cell?_alloc_lt]
        have hk1 : w2.cell? ⟨w.heap.size, 1, none⟩ = some (.map (some sb)) := by
          rw [hc _ _ (by simp; omega)]; simp [World.cell?_alloc_lt]
        have hw1 : IntKind.i64.wrap ((n : Int) + 2 + (m : Int)) = (n : Int) + 2 + (m : Int) := IntWalk.i64_in _ (by omega)
        have hw2 : ((n : Int) + 2 + (m : Int)).toNat = n + 2 + m := by omega
        have hw3 : ((n : Int) + 2).toNat = n + 2 := by omega
        have hw4 : (0 : Int) ≤ (n : Int) + 2 + (m : Int) := by omega
        go_region_held3 (fun w' => w'.cell? ⟨w.heap.size, 0, none⟩ = some (.map (some kb)) ∧ w'.cell? ⟨w.heap.size, 1, none⟩ = some (.map (some sb))) (first | exact ⟨hq0, hq1⟩ | exact ⟨hk0, hk1⟩ | go_keep)
          (first | (go_at_call 110; refine (Ck.out _ (by exact Hsc2.out)).mono ?_; rintro e w3 ⟨rfl, hb3⟩; have hq0 := cell_later hb3 hk0; have hq1 := cell_later hb3 hk1))
        have hbig3 := Hbig.out.trans ((below_undrew hb3).mono Hbig.out.size)
        clear hc hf hk0 hk1 hq0 hq1 hz Hbig hw1 hw2 hw3 hw4
        have Hbig3 := Lib.hid hbig3; clear hbig3 hb3
        go_wp2_with fail
        refine (place_any s 0 (n + 2 + m) _ hmle (by omega)).mono ?_; rintro e w4 ⟨rfl, hb4⟩
        simp only [plV]
        have hbig4 := Hbig3.out.trans (hb4.mono Hbig3.out.size)
        obtain ⟨hc, hf⟩ := bcell hbig4
        have hz : w.heap.size + 1 < w4.heap.size := by have := hbig4.size; simp at this; omega
        have Hbig := Lib.hid hbig4; clear hbig4 hb4
        go_wp2
        refine bodyPost_ret (v := rdV s (0, n + 2 + m, 0)) ?_ rfl ⟨rfl, ?_⟩
        · simp [results, Tryd.results83, go_sem, hc, hz]
          simp [rdV, plV, extract_zero] <;> rfl
        · exact below_pl (below_call Hbig.out) (by omega) _ _ _ _

theorem qualified_any (s : ByteArray) (kb sb : Nat) (w : World) (hs : s.size ≤ 65536) (hsc : IsScanner w kb sb) :
    Calls Tryd.prog 83 #[.agg #[.map (some kb), .map (some sb)], .string s] w fun e w' => e = .returned (rdV s (qualR s.data.toList)) ∧ Below w.heap.size w w' := by
  cases h : qualIn s.data.toList (wlen s.data.toList) with
  | true => exact qual_in s kb sb w hs hsc h
  | false => rw [show qualR s.data.toList = (0, 0, 0) by unfold qualR; rw [if_pos h]]; exact qual_out s kb sb w hs h
end Go.Proofs.YtokdoklkaojheaaDoor

import Derived.Test.YtokdoklkaojheaaDoorWm
namespace Go.Proofs.YtokdoklkaojheaaDoor
open Go.RowKit

def qualIn (l : List UInt8) (n : Nat) : Bool := decide (n ≠ 0 ∧ n ≤ 24 ∧ (l.getD 0 0).toNat < 97) && Lib.hasPrefix (l.drop n) [58, 58]
def qualR (l : List UInt8) : Nat × Nat × Int :=
  if qualIn l (wlen l) = false then (0, 0, 0)
  else if 24 < wlen (l.drop (wlen l + 2)) then (0, 0, 6)
  else if wlen (l.drop (wlen l + 2)) = 0 ∨ kwB ((l.drop (wlen l + 2)).take (wlen (l.drop (wlen l + 2)))) = true then (0, 0, 0)
  else (0, wlen l + 2 + wlen (l.drop (wlen l + 2)), 0)

theorem getD_zero (s : ByteArray) (h : 0 < s.size) : (s.data.toList.getD 0 0).toNat = (s[0]'h).toNat := by
  rw [getD_at _ _ _ (by simpa using h)]; rfl
theorem hasPrefix_len {l p : List UInt8} (h : Lib.hasPrefix l p = true) : p.length ≤ l.length := by
  unfold Lib.hasPrefix at h
  exact List.IsPrefix.length_le (List.isPrefixOf_iff_prefix.1 h)

set_option maxHeartbeats 1000000 in
set_option maxRecDepth 100000 in
theorem qual_out (s : ByteArray) (kb sb : Nat) (w : World) (hs : s.size ≤ 65536) (h : qualIn s.data.toList (wlen s.data.toList) = false) :
    Calls Tryd.prog 83 #[.agg #[.map (some kb), .map (some sb)], .string s] w fun e w' => e = .returned (rdV s (0, 0, 0)) ∧ Below w.heap.size w w' := by
  have hle : wlen s.data.toList ≤ s.size := by have := wlen_le s.data.toList; simpa using this
  have cw := fun w => wordLength_any s w (by omega)
  obtain ⟨n, hn⟩ : ∃ n, wlen s.data.toList = n := ⟨_, rfl⟩
  rw [hn] at cw hle h
  have Cw := Lib.hid cw
  clear cw hn
  by_cases h0 : n = 0
  · subst h0
    clear h
    go_enter Tryd.func83, Tryd.ntmps83
    go_wp2_with fail
    refine (Cw.out _).mono ?_; rintro e w1 ⟨rfl, hb⟩
    obtain ⟨hc, hf⟩ := bcell hb
    have hz : w.heap.size + 1 < w1.heap.size := by have := hb.size; simp at this; omega
    have Hb := Lib.hid hb; clear hb
    go_wp2
    refine bodyPost_ret (v := rdV s (0, 0, 0)) ?_ rfl ⟨rfl, ?_⟩
    · simp [results, Tryd.results83, go_sem, hc, hz]
      simp [rdV, plV, extract_zero]; rfl
    · exact below_pl (below_call Hb.out) (by omega) _ _ _ _
  · have d0 : ((n : Int) == 0) = false := by simp; omega
    by_cases h1 : 24 < n
    · have d1 : decide ((24 : Int) < n) = true := by simp; omega
      have d1' : decide (24 < n) = true := by simp; omega
      clear h
      go_enter Tryd.func83, Tryd.ntmps83
      go_wp2_with fail
      refine (Cw.out _).mono ?_; rintro e w1 ⟨rfl, hb⟩
      obtain ⟨hc, hf⟩ := bcell hb
      have hz : w.heap.size + 1 < w1.heap.size := by have := hb.size; simp at this; omega
      have Hb := Lib.hid hb; clear hb
      go_wp2
      refine bodyPost_ret (v := rdV s (0, 0, 0)) ?_ rfl ⟨rfl, ?_⟩
      · simp [results, Tryd.results83, go_sem, hc, hz]
        simp [rdV, plV, extract_zero]; rfl
      · exact below_pl (below_call Hb.out) (by omega) _ _ _ _
    · have d1 : decide ((24 : Int) < n) = false := by simp; omega
      have d1' : decide (24 < n) = false := by simp; omega
      have hp0 : 0 < s.size := by omega
      have hg := getD_zero s hp0
      unfold qualIn at h
      rw [hg] at h
      by_cases h2 : (s[0]'hp0).toNat < 97
      · have d2 : decide ((97 : Int) ≤ ((s[0]'hp0).toNat : Int)) = false := by simp; omega
        rw [decide_eq_true ⟨h0, by omega, h2⟩, Bool.true_and] at h
        have cp := hasPrefix_any (s.extract n s.size) ⟨#[58, 58]⟩
        rw [Lib.extract_to_end, show (⟨#[58, 58]⟩ : ByteArray).data.toList = [58, 58] from rfl, h] at cp
        have Cp := Lib.hid cp
        clear h h0 h1 h2 hg cp
        go_enter Tryd.func83, Tryd.ntmps83
        go_wp2_with fail
        refine (Cw.out _).mono ?_; rintro e w1 ⟨rfl, hb⟩
        obtain ⟨hc, hf⟩ := bcell hb
        have hz : w.heap.size + 1 < w1.heap.size := by have := hb.size; simp at this; omega
        have Hb := Lib.hid hb; clear hb
        go_wp2_with fail
        refine (Cp.out _).mono ?_; rintro e w2 ⟨rfl, rfl⟩
        go_wp2
        refine bodyPost_ret (v := rdV s (0, 0, 0)) ?_ rfl ⟨rfl, ?_⟩
        · simp [results, Tryd.results83, go_sem, hc, hz]
          simp [rdV, plV, extract_zero]; rfl
        · exact below_pl (below_call Hb.out) (by omega) _ _ _ _
      · have d2 : decide ((97 : Int) ≤ ((s[0]'hp0).toNat : Int)) = true := by simp; omega
        clear h h0 h1 h2 hg
        go_enter Tryd.func83, Tryd.ntmps83
        go_wp2_with fail
        refine (Cw.out _).mono ?_; rintro e w1 ⟨rfl, hb⟩
        obtain ⟨hc, hf⟩ := bcell hb
        have hz : w.heap.size + 1 < w1.heap.size := by have := hb.size; simp at this; omega
        have Hb := Lib.hid hb; clear hb
        go_wp2
        refine bodyPost_ret (v := rdV s (0, 0, 0)) ?_ rfl ⟨rfl, ?_⟩
        · simp [results, Tryd.results83, go_sem, hc, hz]
          simp [rdV, plV, extract_zero]; rfl
        · exact below_pl (below_call Hb.out) (by omega) _ _ _ _
end Go.Proofs.YtokdoklkaojheaaDoor

import Derived.Test.YtokdoklkaojheaaDoorWk
namespace Go.Proofs.YtokdoklkaojheaaDoor
open Go.RowKit

def num (l : List UInt8) : Nat := l.foldl (fun n c => n * 10 + (c.toNat - 48)) 0
def bitsW (wd : List UInt8) : Bool :=
  if 2 < wd.length then false else if tw isDigB wd < wd.length then false else if Lib.hasPrefix wd [48] then false else decide (1 ≤ num wd ∧ num wd ≤ 64)
def kwB (l : List UInt8) : Bool := decide (l ∈ kwL) || (Lib.hasPrefix l [98, 118] && bitsW (Lib.trimPrefix l [98, 118]))

theorem num_snoc (l : List UInt8) (c : UInt8) : num (l ++ [c]) = num l * 10 + (c.toNat - 48) := by simp [num]

theorem run_look (s : ByteArray) (b : Nat) (L : List (List UInt8)) (w : World) (hb : w.heap[b]? = some (setObjOf L)) :
    (Instr.lookup 67 (.map (some b)) (.string s) false).run Tryd.prog w = .ok (.bool (decide (s.data.toList ∈ L))) w :=
  run_lookup_set 67 9 4 s b L w Tryd.underlying67 Tryd.underlying9 Tryd.zeroBool hb

theorem cutPrefix_any (s p : ByteArray) (w : World) :
    Calls Tryd.prog 115 #[.string s, .string p] w fun e w' => e = .returned (.tuple #[.string ⟨(Lib.trimPrefix s.data.toList p.data.toList).toArray⟩, .bool (Lib.hasPrefix s.data.toList p.data.toList)]) ∧ w = w' :=
  (Tryd.strings_CutPrefix s p w).mono fun _ _ h => ⟨h.1, h.2.symm⟩
theorem hasPrefix_any (s p : ByteArray) (w : World) :
    Calls Tryd.prog 101 #[.string s, .string p] w fun e w' => e = .returned (.bool (Lib.hasPrefix s.data.toList p.data.toList)) ∧ w = w' :=
  (Tryd.strings_HasPrefix s p w).mono fun _ _ h => ⟨h.1, h.2.symm⟩

theorem kw_in (s : ByteArray) (kb sb : Nat) (w : World) (hsc : IsScanner w kb sb) (h : s.data.toList ∈ kwL) :
    Calls Tryd.prog 110 #[.agg #[.map (some kb), .map (some sb)], .string s] w fun e w' => e = .returned (.bool true) ∧ Below w.heap.size w w' := by
  have hl := run_look s kb kwL (w.alloc (.cells #[.map (some kb), .map (some sb)] 69)) ((heap_alloc_lt hsc.lt.1).trans hsc.1)
  rw [decide_eq_true h] at hl
  clear h hsc
  go_enter Tryd.func110, Tryd.ntmps110
  go_wp2
  go_ret
  exact ⟨rfl, (Below.refl _ _).alloc (Nat.le_refl _) _⟩

theorem kw_no (s : ByteArray) (kb sb : Nat) (w : World) (hsc : IsScanner w kb sb) (h : s.data.toList ∉ kwL) (hp : Lib.hasPrefix s.data.toList [98, 118] = false) :
    Calls Tryd.prog 110 #[.agg #[.map (some kb), .map (some sb)], .string s] w fun e w' => e = .returned (.bool false) ∧ Below w.heap.size w w' := by
  have hl := run_look s kb kwL (w.alloc (.cells #[.map (some kb), .map (some sb)] 69)) ((heap_alloc_lt hsc.lt.1).trans hsc.1)
  rw [decide_eq_false h] at hl
  have c := cutPrefix_any s ⟨#[98, 118]⟩
  rw [show (⟨#[98, 118]⟩ : ByteArray).data.toList = [98, 118] from rfl, hp] at c
  have C := Lib.hid c
  clear h hsc hp c
  go_enter Tryd.func110, Tryd.ntmps110
  go_wp2_with fail
  refine (C.out _).mono ?_; rintro e w1 ⟨rfl, rfl⟩
  go_wp2
  go_ret
  exact ⟨rfl, (Below.refl _ _).alloc (Nat.le_refl _) _⟩

theorem num_step (D : ByteArray) (k : Nat) (h : k < D.size) (hd : isDigB (D.get! k) = true) :
    num (D.data.toList.take (k + 1)) = num (D.data.toList.take k) * 10 + ((D[k]'h).toNat - 48) ∧ 48 ≤ (D[k]'h).toNat ∧ (D[k]'h).toNat ≤ 57 := by
  have hg := get_at D k h
  rw [Nat.add_zero] at hg
  rw [hg] at hd
  unfold isDigB isDigZ at hd
  simp at hd
  refine ⟨?_, by omega, by omega⟩
  rw [take_snoc D k h, num_snoc]
theorem tw_full (p : UInt8 → Bool) : ∀ (l : List UInt8), ¬ tw p l < l.length → ∀ i (h : i < l.length), p l[i] = true
  | [], _, i, h => by simp at h
  | c :: l, h0, i, h => by
    rw [tw_cons] at h0
    by_cases hc : p c = true
    · rw [if_pos hc] at h0
      cases i with
      | zero => exact hc
      | succ i => simpa using tw_full p l (by simpa using h0) i (by simpa using h)
    · rw [if_neg hc] at h0; simp at h0

set_option maxHeartbeats 1000000 in
set_option maxRecDepth 100000 in
theorem kw_bv (s : ByteArray) (kb sb : Nat) (w : World) (hs : s.size ≤ 9223372036854775807) (hsc : IsScanner w kb sb) (h : s.data.toList ∉ kwL) (hp : Lib.hasPrefix s.data.toList [98, 118] = true) :
    Calls Tryd.prog 110 #[.agg #[.map (some kb), .map (some sb)], .string s] w fun e w' => e = .returned (.bool (bitsW (Lib.trimPrefix s.data.toList [98, 118]))) ∧ Below w.heap.size w w' := by
  have hl := run_look s kb kwL (w.alloc (.cells #[.map (some kb), .map (some sb)] 69)) ((heap_alloc_lt hsc.lt.1).trans hsc.1)
  rw [decide_eq_false h] at hl
  have c := cutPrefix_any s ⟨#[98, 118]⟩
  rw [show (⟨#[98, 118]⟩ : ByteArray).data.toList = [98, 118] from rfl, hp] at c
  have hwl : (Lib.trimPrefix s.data.toList [98, 118]).length ≤ s.size := by
    unfold Lib.trimPrefix; split <;> simp
  obtain ⟨wd, hwd⟩ : ∃ wd, Lib.trimPrefix s.data.toList [98, 118] = wd := ⟨_, rfl⟩
  rw [hwd] at c hwl ⊢
  obtain ⟨D, hD⟩ : ∃ D : ByteArray, (⟨wd.toArray⟩ : ByteArray) = D := ⟨_, rfl⟩
  rw [hD] at c
  have hDl : D.data.toList = wd := by rw [← hD]
  have hDs : D.size = wd.length := by rw [← hD]; rfl
  have C := Lib.hid c
  have HDl := Lib.hid hDl
  have HDs := Lib.hid hDs
  have hDle : D.size ≤ 9223372036854775807 := by omega
  clear h hsc hp c hwd hD hDl hDs
  by_cases h1 : 2 < wd.length
  · have d1 : decide ((2 : Int) < D.size) = true := by have := HDs.out; simp; omega
    have hv : bitsW wd = false := by unfold bitsW; rw [if_pos h1]
    rw [hv]
    clear hv h1
    go_enter Tryd.func110, Tryd.ntmps110
    go_wp2_with fail
    refine (C.out _).mono ?_; rintro e w1 ⟨rfl, rfl⟩
    go_wp2
    go_ret
    exact ⟨rfl, (Below.refl _ _).alloc (Nat.le_refl _) _⟩
  · have d1 : decide ((2 : Int) < D.size) = false := by have := HDs.out; simp; omega
    have hD2 : D.size ≤ 2 := by have := HDs.out; omega
    have cd := fun w => preDig D w hDle
    rw [HDl.out] at cd
    have htl := tw_le isDigB wd
    by_cases h2 : tw isDigB wd < wd.length
    · have hv : bitsW wd = false := by unfold bitsW; rw [if_neg h1, if_pos h2]
      rw [hv]
      obtain ⟨t, ht⟩ : ∃ t, tw isDigB wd = t := ⟨_, rfl⟩
      rw [ht] at cd
      have d2 : decide ((t : Int) < D.size) = true := by have := HDs.out; simp; omega
      have d3 : decide (t < D.size) = true := by have := HDs.out; simp; omega
      have Cd := Lib.hid cd
      clear hv h1 h2 cd ht htl
      go_enter Tryd.func110, Tryd.ntmps110
      go_wp2_with fail
      refine (C.out _).mono ?_; rintro e w1 ⟨rfl, rfl⟩
      go_wp2_with fail
      refine (Cd.out _).mono ?_; rintro e w1 ⟨rfl, hb⟩
      have Hb := Lib.hid hb; clear hb
      go_wp2
      go_ret
      exact ⟨rfl, ((Below.refl _ _).alloc (Nat.le_refl _) _).trans (Hb.out.mono (by simp))⟩
    · obtain ⟨t, ht⟩ : ∃ t, tw isDigB wd = t := ⟨_, rfl⟩
      rw [ht] at cd
      have d2 : decide ((t : Int) < D.size) = false := by have := HDs.out; simp; omega
      have d3 : decide (t < D.size) = false := by have := HDs.out; simp; omega
      have Cd := Lib.hid cd
      have cp := hasPrefix_any D ⟨#[48]⟩
      rw [show (⟨#[48]⟩ : ByteArray).data.toList = [48] from rfl, HDl.out] at cp
      by_cases h3 : Lib.hasPrefix wd [48] = true
      · have hv : bitsW wd = false := by unfold bitsW; rw [if_neg h1, if_neg h2, if_pos h3]
        rw [hv]
        rw [h3] at cp
        have Cp := Lib.hid cp
        clear hv h1 h2 cd ht htl h3 cp
        go_enter Tryd.func110, Tryd.ntmps110
        go_wp2_with fail
        refine (C.out _).mono ?_; rintro e w1 ⟨rfl, rfl⟩
        go_wp2_with fail
        refine (Cd.out _).mono ?_; rintro e w1 ⟨rfl, hb⟩
        have Hb := Lib.hid hb; clear hb
        go_wp2_with fail
        refine (Cp.out _).mono ?_; rintro e w2 ⟨rfl, rfl⟩
        go_wp2
        go_ret
        exact ⟨rfl, ((Below.refl _ _).alloc (Nat.le_refl _) _).trans (Hb.out.mono (by simp))⟩
      · have h3' : Lib.hasPrefix wd [48] = false := by simpa using h3
        have hv : bitsW wd = decide (1 ≤ num wd ∧ num wd ≤ 64) := by unfold bitsW; rw [if_neg h1, if_neg h2, if_neg h3]
        rw [hv]
        rw [h3'] at cp
        have Cp := Lib.hid cp
        have hall : ∀ i, i < D.size → isDigB (D.get! i) = true := by
          intro i hi
          have := tw_full isDigB wd h2 i (by have := HDs.out; omega)
          rw [get!_at D i hi]
          have hDl := HDl.out
          subst hDl
          exact this
        have Hall := Lib.hid hall
        have hnk : ∀ k, k < D.size → num (D.data.toList.take k) ≤ 9 := by
          intro k hk
          have : k = 0 ∨ k = 1 := by omega
          rcases this with rfl | rfl
          · simp [num]
          · have := num_step D 0 (by omega) (hall 0 (by omega))
            simp [num] at this ⊢; omega
        have hn2 : num D.data.toList ≤ 99 := by
          rcases Nat.eq_zero_or_pos D.size with h | h
          · have : D.data.toList = [] := by have := HDs.out; have h4 := HDl.out; rw [h4]; exact List.length_eq_zero_iff.1 (by omega)
            rw [this]; simp [num]
          · have h5 := num_step D (D.size - 1) (by omega) (hall _ (by omega))
            have h6 := hnk (D.size - 1) (by omega)
            rw [show D.size - 1 + 1 = D.size by omega, List.take_of_length_le (by simp)] at h5
            omega
        have Hnk := Lib.hid hnk
        clear hv h1 h2 cd ht htl h3 h3' cp hall hnk
        go_enter Tryd.func110, Tryd.ntmps110
        go_wp2_with fail
        refine (C.out _).mono ?_; rintro e w1 ⟨rfl, rfl⟩
        go_wp2_with fail
        refine (Cd.out _).mono ?_; rintro e w1 ⟨rfl, hb⟩
        have Hb := Lib.hid hb; clear hb
        go_wp2_with fail
        refine (Cp.out _).mono ?_; rintro e w2 ⟨rfl, rfl⟩
        go_wp2
        go_loopg [7] D.size (fun g n wx => ∃ k : Nat, k ≤ D.size ∧ wx = w1.iter D k ∧ n = .int .i64 (num (D.data.toList.take k)) ∧ D.size ≤ k + g)
        case atStart => exact ⟨0, by omega, rfl, rfl, by omega⟩
        case round =>
          obtain ⟨k, hk, rfl, rfl, hfu⟩ := hrel
          by_cases hlt : k < D.size
          · obtain ⟨g, rfl⟩ : ∃ g, gk = g + 1 := ⟨gk - 1, by omega⟩
            obtain ⟨hst, hc1, hc2⟩ := num_step D k hlt (Hall.out k hlt)
            have hnk := Hnk.out k hlt
            have hnx : ∀ ty, (Instr.next (.pointer (some ⟨w1.heap.size, 0, none⟩)) true ty).run Tryd.prog (w1.iter D k) = _ := fun ty => run_next_ascii w1 D k ty hlt (by omega)
            obtain ⟨c, hc⟩ : ∃ c, (D[k]'hlt).toNat = c := ⟨_, rfl⟩
            rw [hc] at hst hc1 hc2 hnx
            have Hst := Lib.hid hst; clear hst hc
            obtain ⟨m, hm⟩ : ∃ m, num (D.data.toList.take k) = m := ⟨_, rfl⟩
            rw [hm] at hnk ⊢
            have Hm := Lib.hid hm; clear hm
            go_wp2
            go_roundg g
            case measure => omega
            case rel => exact ⟨k + 1, by omega, rfl, int_v (by rw [Hst.out, Hm.out]; omega), by omega⟩
          · have hnx : ∀ ty, (Instr.next (.pointer (some ⟨w1.heap.size, 0, none⟩)) true ty).run Tryd.prog (w1.iter D k) = _ := fun ty => run_next_end w1 D k ty hlt
            rw [List.take_of_length_le (show D.data.toList.length ≤ k by simp; omega)]
            have hnd := HDl.out
            rw [hnd] at hn2 ⊢
            clear hnd
            obtain ⟨m, hm⟩ : ∃ m, num wd = m := ⟨_, rfl⟩
            rw [hm] at hn2 ⊢
            have Hm := Lib.hid hm; clear hm
            have hbw : Below w.heap.size w (w1.iter D k) := (((Below.refl _ _).alloc (Nat.le_refl _) _).trans (Hb.out.mono (by simp))).alloc (by have := Hb.out.size; simp at this; omega) _
            have Hbw := Lib.hid hbw; clear hbw
            by_cases h5 : 1 ≤ m
            · have d5 : decide ((1 : Int) ≤ m) = true := by simp; omega
              by_cases h6 : m ≤ 64
              · have d6 : decide ((m : Int) ≤ 64) = true := by simp; omega
                go_wp2
                go_ret
                exact ⟨by rw [Hm.out, decide_eq_true ⟨h5, h6⟩]; rfl, Hbw.out⟩
              · have d6 : decide ((m : Int) ≤ 64) = false := by simp; omega
                go_wp2
                go_ret
                exact ⟨by rw [Hm.out, decide_eq_false (fun h => h6 h.2)]; rfl, Hbw.out⟩
            · have d5 : decide ((1 : Int) ≤ m) = false := by simp; omega
              go_wp2
              go_ret
              exact ⟨by rw [Hm.out, decide_eq_false (fun h => h5 h.1)]; rfl, Hbw.out⟩

theorem isKeyword_any (s : ByteArray) (kb sb : Nat) (w : World) (hs : s.size ≤ 9223372036854775807) (hsc : IsScanner w kb sb) :
    Calls Tryd.prog 110 #[.agg #[.map (some kb), .map (some sb)], .string s] w fun e w' => e = .returned (.bool (kwB s.data.toList)) ∧ Below w.heap.size w w' := by
  unfold kwB
  by_cases h : s.data.toList ∈ kwL
  · rw [decide_eq_true h]; exact kw_in s kb sb w hsc h
  · rw [decide_eq_false h]
    cases hp : Lib.hasPrefix s.data.toList [98, 118] with
    | false => exact kw_no s kb sb w hsc h hp
    | true => exact kw_bv s kb sb w hs hsc h hp
end Go.Proofs.YtokdoklkaojheaaDoor

import Derived.Test.YtokdoklkaojheaaDoorWe
import Derived.Test.YtokdoklkaojheaaDoorShelf
namespace Go.Proofs.YtokdoklkaojheaaDoor
open Go.RowKit

def offErr (s : ByteArray) (line : Int) : Int := firstErr [ckText s.size, ckRange line 1 (((Lib.countByte s.data.toList 10 : Nat) : Int) + 1)]

theorem indexByte_any (s : ByteArray) (w : World) : Calls Tryd.prog 55 #[.string s, .int .u8 10] w fun e w' => e = .returned (.int .i64 (Lib.indexByte s.data.toList 10)) ∧ w = w' :=
  (Tryd.strings_IndexByte s 10 w).mono fun _ _ ⟨h1, h2⟩ => ⟨h1, h2.symm⟩
theorem count_any (s : ByteArray) (w : World) : Calls Tryd.prog 54 #[.string s, .string ⟨#[10]⟩] w fun e w' => e = .returned (.int .i64 (Lib.countByte s.data.toList 10)) ∧ w = w' :=
  (Tryd.strings_Count_one s 10 w).mono fun _ _ ⟨h1, h2⟩ => ⟨h1, h2.symm⟩

theorem count_le (s : ByteArray) : Lib.countByte s.data.toList 10 ≤ s.size := by
  have := List.count_le_length (a := (10 : UInt8)) (l := s.data.toList)
  simpa [Lib.countByte] using this

set_option maxHeartbeats 1000000 in
theorem lexOffset_bad (s : ByteArray) (line col : Int) (w : World) (hs : s.size ≤ maxLen) (hm1 : s.size < 9223372036854775807) (h : offErr s line ≠ 0) :
    Calls Tryd.prog 27 #[.string s, .int .i64 line, .int .i64 col] w fun r w' => r = .returned (.tuple #[.int .i64 0, .int .i64 (offErr s line)]) ∧ Below w.heap.size w w' := by
  unfold maxLen at hs
  have hb : (offErr s line != 0) = true := by simpa using h
  clear h
  have hcl := count_le s
  go_enter Tryd.func27, Tryd.ntmps27
  go_wp2_with fail
  refine (checkText_any _ _).mono ?_; rintro e w1 ⟨rfl, rfl⟩
  go_wp2_with fail
  refine (count_any s _).mono ?_; rintro e w1 ⟨rfl, rfl⟩
  obtain ⟨c, hc⟩ : ∃ c, Lib.countByte s.data.toList 10 = c := ⟨_, rfl⟩
  rw [hc] at hcl ⊢
  have Hc := Lib.hid hc; clear hc
  go_wp2_with fail
  refine (checkRange_any _ _ _ _).mono ?_; rintro e w1 ⟨rfl, rfl⟩
  go_wp2_with fail
  refine (firstError2 _ _ _ _).mono ?_; rintro e w1 ⟨rfl, rfl⟩
  rw [show firstErr [ckText s.size, ckRange line 1 ((c : Int) + 1)] = offErr s line by unfold offErr; rw [Hc.out]]
  generalize hx : offErr s line = x at *
  have Hx := Lib.hid hx; clear hx
  go_wp2
  go_ret2
  exact ⟨by rw [Hx.out]; rfl, (Below.refl _ _).alloc (Nat.le_refl _) _⟩

theorem offErr_ok (s : ByteArray) (line : Int) (h : offErr s line = 0) : (s.size : Int) ≤ 65536 ∧ 1 ≤ line ∧ line ≤ (starts s.data.toList).length := by
  unfold offErr firstErr firstErr ckText ckRange at h
  rw [starts_length]
  unfold Lib.countByte at h
  by_cases h1 : (s.size : Int) > 65536
  · simp [h1] at h
  · simp only [h1, if_false, if_true, firstErr] at h
    by_cases h2 : line < 1 ∨ ((s.data.toList.count 10 : Nat) : Int) + 1 < line
    · rw [if_pos h2] at h; simp at h
    · omega

theorem ckRange_cases (n lo hi : Int) : (ckRange n lo hi = 3 ∧ (n < lo ∨ hi < n)) ∨ (ckRange n lo hi = 0 ∧ lo ≤ n ∧ n ≤ hi) := by
  unfold ckRange
  by_cases h : n < lo ∨ hi < n
  · left; exact ⟨by rw [if_pos h], h⟩
  · right; exact ⟨by rw [if_neg h], by omega, by omega⟩
def lenAt (l : List UInt8) (a : Nat) : Nat := if Lib.indexByte (l.drop a) 10 < 0 then l.length - a else (Lib.indexByte (l.drop a) 10).toNat
theorem offOf_at (l : List UInt8) (k a : Nat) (col : Int) (ha : a ≤ l.length) (h : (starts l).drop k = a :: startsFrom a (l.drop a)) :
    offOf l ((k : Int) + 1) col = if ckRange col 1 ((lenAt l a : Int) + 1) = 0 then ((a : Int) + col - 1, 0) else (0, 3) := by
  have hk : k < (starts l).length := by
    have := congrArg List.length h
    simp at this; omega
  have hka : (starts l).getD k 0 = a := by
    have := congrArg (fun x => x.getD 0 0) h
    simpa [List.getD] using this
  have hE : lineEnd l k = a + lenAt l a := by
    unfold lineEnd lenAt
    rcases startsFrom_index (l.drop a) a with ⟨h1, h2⟩ | ⟨j, h1, h2, h3⟩
    · rw [h2] at h
      have := congrArg List.length h
      simp at this
      rw [if_neg (by omega), h1, if_pos (by omega)]; omega
    · rw [h3] at h
      have h4 := congrArg List.length h
      simp at h4
      have h5 : (starts l).getD (k + 1) 0 = a + j + 1 := by
        have := congrArg (fun x => x.getD 1 0) h
        simpa [List.getD] using this
      rw [if_pos (by omega), h5, h1, if_neg (by omega)]; omega
  unfold offOf
  rw [if_neg (by omega), show ((k : Int) + 1).toNat - 1 = k by omega, hka, hE]
  rcases ckRange_cases col 1 ((lenAt l a : Int) + 1) with ⟨h1, h2⟩ | ⟨h1, h2⟩
  · rw [if_pos (by omega), h1, if_neg (by omega)]
  · rw [if_neg (by omega), h1, if_pos rfl]

set_option maxHeartbeats 1000000 in
set_option maxRecDepth 100000 in
theorem lexOffset_ok (s : ByteArray) (q : Nat) (col : Int) (w : World) (h : offErr s ((q : Int) + 1) = 0) (hcol : col ≤ 9223372036854775807) :
    Calls Tryd.prog 27 #[.string s, .int .i64 ((q : Int) + 1), .int .i64 col] w fun r w' => r = .returned (.tuple #[.int .i64 (offOf s.data.toList ((q : Int) + 1) col).1, .int .i64 (offOf s.data.toList ((q : Int) + 1) col).2]) ∧ Below w.heap.size w w' := by
  have h3 := offErr_ok _ _ h
  obtain ⟨hs, _, hq⟩ := h3
  have H := Lib.hid h; clear h
  have hcl := count_le s
  have hL := starts_length s.data.toList
  have HL := Lib.hid hL; clear hL
  have hlm := starts_take_le s s.size
  rw [List.take_of_length_le (by simp)] at hlm
  obtain ⟨m, hm⟩ : ∃ m, (starts s.data.toList).length = m := ⟨_, rfl⟩
  rw [hm] at hq hlm
  have Hm := Lib.hid hm; clear hm
  go_enter Tryd.func27, Tryd.ntmps27
  go_wp2_with fail
  refine (checkText_any _ _).mono ?_; rintro e w1 ⟨rfl, rfl⟩
  go_wp2_with fail
  refine (count_any s _).mono ?_; rintro e w1 ⟨rfl, rfl⟩
  obtain ⟨c, hc⟩ : ∃ c, Lib.countByte s.data.toList 10 = c := ⟨_, rfl⟩
  rw [hc] at hcl ⊢
  have Hc := Lib.hid hc; clear hc
  go_wp2_with fail
  refine (checkRange_any _ _ _ _).mono ?_; rintro e w1 ⟨rfl, rfl⟩
  go_wp2_with fail
  refine (firstError2 _ _ _ _).mono ?_; rintro e w1 ⟨rfl, rfl⟩
  rw [show firstErr [ckText s.size, ckRange ((q : Int) + 1) 1 ((c : Int) + 1)] = 0 by rw [← H.out]; unfold offErr; rw [Hc.out]]
  go_wp2
  go_loop [9, 26] (fun st i => ∃ k a : Nat, k ≤ q ∧ i = .int .i64 k ∧ st = .int .i64 a ∧ a ≤ s.size ∧ (starts s.data.toList).drop k = a :: startsFrom a (s.data.toList.drop a)) (fun _ i => q - (intOf i).toNat)
  case atStart => exact ⟨0, 0, Nat.zero_le _, rfl, rfl, Nat.zero_le _, rfl⟩
  case round =>
    obtain ⟨k, a, hk, rfl, rfl, ha, hd⟩ := hrel
    have Hd := Lib.hid hd; clear hd
    by_cases hlt : k < q
    · obtain ⟨j, hj1, hj2, hj3⟩ : ∃ j : Nat, Lib.indexByte (s.data.toList.drop a) 10 = j ∧ a + j + 1 ≤ s.size ∧ startsFrom a (s.data.toList.drop a) = (a + j + 1) :: startsFrom (a + j + 1) (s.data.toList.drop (a + j + 1)) := by
        rcases startsFrom_index (s.data.toList.drop a) a with ⟨_, h2⟩ | ⟨j, h1, h2, h3⟩
        · have h5 := Hd.out
          rw [h2] at h5
          have := congrArg List.length h5
          rw [List.length_drop, Hm.out] at this
          simp at this; omega
        · refine ⟨j, h1, by simp at h2; omega, ?_⟩
          rw [h3, List.drop_drop, show a + (j + 1) = a + j + 1 by omega]
      have Hj1 := Lib.hid hj1; clear hj1
      have Hj3 := Lib.hid hj3; clear hj3
      go_wp2_with fail
      refine (indexByte_any _ _).mono ?_; rintro e w2 ⟨rfl, rfl⟩
      rw [Lib.extract_to_end, Hj1.out]
      go_wp2
      go_round
      case rel => exact ⟨k + 1, a + j + 1, by omega, by go_num, by go_num, hj2, by
        rw [show (starts s.data.toList).drop (k + 1) = ((starts s.data.toList).drop k).drop 1 by rw [List.drop_drop], Hd.out, Hj3.out]; rfl⟩
      case measure => simp [intOf]; omega
    · have hkq : k = q := by omega
      subst hkq
      go_wp2_with fail
      refine (indexByte_any _ _).mono ?_; rintro e w2 ⟨rfl, rfl⟩
      rw [Lib.extract_to_end]
      have hoff := offOf_at s.data.toList k a col (by simpa using ha) Hd.out
      have Hoff := Lib.hid hoff; clear hoff
      have hlen : Lib.indexByte (s.data.toList.drop a) 10 < 0 ∧ lenAt s.data.toList a = s.size - a ∨ ∃ j : Nat, Lib.indexByte (s.data.toList.drop a) 10 = j ∧ lenAt s.data.toList a = j ∧ a + j ≤ s.size := by
        unfold lenAt
        by_cases h : Lib.indexByte (s.data.toList.drop a) 10 < 0
        · left; exact ⟨h, by rw [if_pos h]; simp⟩
        · right
          rcases startsFrom_index (s.data.toList.drop a) a with ⟨h1, _⟩ | ⟨j, h1, h2, h3⟩
          · omega
          · refine ⟨j, h1, by rw [if_neg h, h1]; simp, by simp at h2; omega⟩
      obtain ⟨x, hx⟩ : ∃ x, Lib.indexByte (s.data.toList.drop a) 10 = x := ⟨_, rfl⟩
      obtain ⟨n, hn⟩ : ∃ n, lenAt s.data.toList a = n := ⟨_, rfl⟩
      rw [hx, hn] at hlen
      rw [hx]
      have Hx := Lib.hid hx; clear hx
      have Hn := Lib.hid hn; clear hn
      have hfin : ∀ n : Nat, lenAt s.data.toList a = n → ckRange col 1 ((n : Int) + 1) = 0 → offOf s.data.toList ((k : Int) + 1) col = ((a : Int) + col - 1, 0) := by
        intro n h1 h2; rw [Hoff.out, h1, if_pos h2]
      have hfin3 : ∀ n : Nat, lenAt s.data.toList a = n → ckRange col 1 ((n : Int) + 1) = 3 → offOf s.data.toList ((k : Int) + 1) col = (0, 3) := by
        intro n h1 h2; rw [Hoff.out, h1, if_neg (by omega)]
      have Hfin := Lib.hid hfin; clear hfin
      have Hfin3 := Lib.hid hfin3; clear hfin3
      rcases hlen with ⟨h1, h2⟩ | ⟨j, h1, h2, h3⟩
      · obtain ⟨b, hb⟩ : ∃ b : Nat, s.size = a + b := ⟨s.size - a, by omega⟩
        have hnb : n = b := by omega
        subst hnb
        have Hb := Lib.hid hb
        have hb1 : s.size ≤ a + n := by omega
        have hb2 : a + n ≤ s.size := by omega
        clear hb h2
        go_wp2_with fail
        refine (checkRange_any _ _ _ _).mono ?_; rintro e w3 ⟨rfl, rfl⟩
        rw [show (s.size : Int) - a + 1 = (n : Int) + 1 by omega]
        rcases ckRange_cases col 1 ((n : Int) + 1) with ⟨h7, _⟩ | ⟨h7, h8, h9⟩
        · rw [h7]
          have hr := Hfin3.out n Hn.out h7
          have Hr := Lib.hid hr; clear hr h7
          go_wp2
          go_ret2
          exact ⟨by rw [Hr.out]; rfl, (Below.refl _ _).alloc (Nat.le_refl _) _⟩
        · rw [h7]
          have hr := Hfin.out n Hn.out h7
          have Hr := Lib.hid hr; clear hr h7
          go_wp2
          go_ret2
          exact ⟨by rw [Hr.out]; rfl, (Below.refl _ _).alloc (Nat.le_refl _) _⟩
      · have hnb : n = j := by omega
        subst hnb
        have H1 := Lib.hid h1
        rw [h1]
        clear h1 h2
        go_wp2_with fail
        refine (checkRange_any _ _ _ _).mono ?_; rintro e w3 ⟨rfl, rfl⟩
        rcases ckRange_cases col 1 ((n : Int) + 1) with ⟨h7, _⟩ | ⟨h7, h8, h9⟩
        · rw [h7]
          have hr := Hfin3.out n Hn.out h7
          have Hr := Lib.hid hr; clear hr h7
          go_wp2
          go_ret2
          exact ⟨by rw [Hr.out]; rfl, (Below.refl _ _).alloc (Nat.le_refl _) _⟩
        · rw [h7]
          have hr := Hfin.out n Hn.out h7
          have Hr := Lib.hid hr; clear hr h7
          go_wp2
          go_ret2
          exact ⟨by rw [Hr.out]; rfl, (Below.refl _ _).alloc (Nat.le_refl _) _⟩
end Go.Proofs.YtokdoklkaojheaaDoor

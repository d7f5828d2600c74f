import Derived.Test.YtokdoklkaojheaaDoorWt
namespace Go.Proofs.YtokdoklkaojheaaDoor
open Go.RowKit

def skipAt (l : List UInt8) (at_ : Nat) : Nat := at_ + tw isSpB (l.drop at_)
/-- the offset of the next token behind spaces and comments, and the error -/
def skipF : Nat → List UInt8 → Nat → Nat × Int
  | 0, _, at_ => (at_, 0)
  | g + 1, l, at_ =>
    if Lib.hasPrefix (l.drop (skipAt l at_)) [47, 47] then skipF g l (skipAt l at_ + tw notNlB (l.drop (skipAt l at_)))
    else if Lib.hasPrefix (l.drop (skipAt l at_)) [47, 42] then
      if Lib.index (l.drop (skipAt l at_ + 2)) [42, 47] < 0 then (skipAt l at_, 22)
      else skipF g l (skipAt l at_ + ((Lib.index (l.drop (skipAt l at_ + 2)) [42, 47]).toNat + 4))
    else (skipAt l at_, 0)
def skipL (l : List UInt8) (at_ : Nat) : Nat × Int := skipF (l.length + 1) l at_

theorem skipAt_le (l : List UInt8) (at_ : Nat) (h : at_ ≤ l.length) : skipAt l at_ ≤ l.length := by
  have := tw_le isSpB (l.drop at_); simp at this; unfold skipAt; omega

theorem tw_append (p : UInt8 → Bool) (r : List UInt8) : ∀ x : List UInt8, x.all p = true → tw p (x ++ r) = x.length + tw p r
  | [], _ => by simp
  | c :: x, h => by
    simp only [List.all_cons, Bool.and_eq_true] at h
    rw [List.cons_append, tw_cons, if_pos h.1, tw_append p r x h.2, List.length_cons]; omega
theorem tw_pos (p : UInt8 → Bool) (l x : List UInt8) (h : Lib.hasPrefix l x = true) (hx : x.all p = true) : x.length ≤ tw p l := by
  unfold Lib.hasPrefix at h
  obtain ⟨r, rfl⟩ := List.isPrefixOf_iff_prefix.1 h
  rw [tw_append p r x hx]; omega

theorem index_any (s sub : ByteArray) (m : Int) (w : World) (hs : s.size < 4294967281) (hm : w.cell? ⟨2, 0, none⟩ = some (.int .i64 m)) :
    Calls Tryd.prog 80 #[.string s, .string sub] w fun e w' => e = .returned (.int .i64 (Lib.index s.data.toList sub.data.toList)) ∧ w = w' :=
  (Tryd.strings_Index s sub m w hs hm).mono fun _ _ h => ⟨h.1, h.2.symm⟩

set_option maxHeartbeats 2000000 in
set_option maxRecDepth 100000 in
theorem skip_any (s : ByteArray) (at0 : Nat) (m : Int) (w : World) (hs : s.size ≤ 65536) (h0 : at0 ≤ s.size) (hm : w.cell? ⟨2, 0, none⟩ = some (.int .i64 m)) :
    Calls Tryd.prog 73 #[.string s, .int .i64 at0] w fun e w' => e = .returned (.tuple #[.int .i64 (skipL s.data.toList at0).1, .int .i64 (skipL s.data.toList at0).2]) ∧ Below w.heap.size w w' := by
  have hw2 := World.block_lt_of_cell? _ _ hm
  have Hm := Lib.hid hm; clear hm
  have hlen : s.data.toList.length = s.size := by simp
  have Hlen := Lib.hid hlen; clear hlen
  obtain ⟨l, hl⟩ : ∃ l, s.data.toList = l := ⟨_, rfl⟩
  have Hl := Lib.hid hl
  rw [hl] at Hlen ⊢
  clear hl
  go_enter Tryd.func73, Tryd.ntmps73
  go_wp2
  go_loopg [1] (s.size + 1) (fun g a wx => ∃ at_ : Nat, at_ ≤ s.size ∧ a = .int .i64 at_ ∧ Below w.heap.size w wx ∧ skipL l at0 = skipF g l at_ ∧ s.size < at_ + g)
  case atStart => exact ⟨at0, h0, rfl, Below.refl _ _, by unfold skipL; rw [Hlen.out], by omega⟩
  case round =>
    obtain ⟨at_, hat, rfl, hb, hsk, hfu⟩ := hrel
    obtain ⟨g, rfl⟩ : ∃ g, gk = g + 1 := ⟨gk - 1, by omega⟩
    have hal := skipAt_le l at_ (by rw [Hlen.out]; exact hat)
    rw [Hlen.out] at hal
    have c1 := fun w => preSp (s.extract at_ s.size) w (by simp; omega)
    rw [Lib.extract_to_end, Hl.out] at c1
    have hge : at_ ≤ skipAt l at_ := by unfold skipAt; omega
    have ha : at_ + tw isSpB (l.drop at_) = skipAt l at_ := rfl
    rw [skipF] at hsk
    obtain ⟨t, ht⟩ : ∃ t, tw isSpB (l.drop at_) = t := ⟨_, rfl⟩
    rw [ht] at c1 ha
    rw [← ha] at hsk hal hge
    have C1 := Lib.hid c1
    have Hsk := Lib.hid hsk
    have Hb := Lib.hid hb
    clear hsk c1 ht ha hb
    have cp1 := fun w => hasPrefix_any (s.extract (at_ + t) s.size) ⟨#[47, 47]⟩ w
    have cp2 := fun w => hasPrefix_any (s.extract (at_ + t) s.size) ⟨#[47, 42]⟩ w
    rw [Lib.extract_to_end, Hl.out, show (⟨#[47, 47]⟩ : ByteArray).data.toList = [47, 47] from rfl] at cp1
    rw [Lib.extract_to_end, Hl.out, show (⟨#[47, 42]⟩ : ByteArray).data.toList = [47, 42] from rfl] at cp2
    cases hp1 : Lib.hasPrefix (l.drop (at_ + t)) [47, 47] with
    | true =>
      rw [hp1] at cp1
      have hr : skipL l at0 = skipF g l (at_ + t + tw notNlB (l.drop (at_ + t))) := by rw [Hsk.out, if_pos hp1]
      have hn2 := tw_pos notNlB _ _ hp1 (by decide)
      have c3 := fun w => preNl (s.extract (at_ + t) s.size) w (by simp; omega)
      rw [Lib.extract_to_end, Hl.out] at c3
      have hn3 := tw_le notNlB (l.drop (at_ + t))
      rw [List.length_drop, Hlen.out] at hn3
      obtain ⟨u, hu⟩ : ∃ u, tw notNlB (l.drop (at_ + t)) = u := ⟨_, rfl⟩
      rw [hu] at c3 hr hn2 hn3
      have hn4 : 2 ≤ u := hn2
      have hn5 : at_ + t + u ≤ s.size := by omega
      have C3 := Lib.hid c3
      have Cp1 := Lib.hid cp1
      have Hr := Lib.hid hr
      clear cp1 cp2 hp1 c3 hr hu hn2
      go_wp2_with fail
      refine (C1.out _).mono ?_; rintro e w1 ⟨rfl, hb1⟩
      have hg1 := Hb.out.trans (hb1.mono Hb.out.size)
      have Hg1 := Lib.hid hg1; clear hg1 hb1
      go_wp2_with fail
      refine (Cp1.out _).mono ?_; rintro e w9 ⟨rfl, rfl⟩
      go_wp2_with fail
      refine (C3.out _).mono ?_; rintro e w2 ⟨rfl, hb2⟩
      have hg2 := Hg1.out.trans (hb2.mono Hg1.out.size)
      have Hg2 := Lib.hid hg2; clear hg2 hb2
      go_wp2
      go_roundg g
      case measure => omega
      case rel => exact ⟨at_ + t + u, hn5, by go_num, Hg2.out, Hr.out, by omega⟩
    | false =>
      rw [hp1] at cp1
      have Cp1 := Lib.hid cp1
      have hsk2 := Hsk.out
      rw [if_neg (by rw [hp1]; simp)] at hsk2
      cases hp2 : Lib.hasPrefix (l.drop (at_ + t)) [47, 42] with
      | true =>
        rw [hp2] at cp2
        rw [if_pos hp2] at hsk2
        have Cp2 := Lib.hid cp2
        have hl2 := hasPrefix_len hp2
        rw [List.length_drop, Hlen.out] at hl2
        have hl3 : at_ + t + 2 ≤ s.size := by simp at hl2; omega
        have ci := fun w h => index_any (s.extract (at_ + t + 2) s.size) ⟨#[42, 47]⟩ m w (by simp; omega) h
        rw [Lib.extract_to_end, Hl.out, show (⟨#[42, 47]⟩ : ByteArray).data.toList = [42, 47] from rfl] at ci
        have hroom := Lib.index_room (l.drop (at_ + t + 2)) [42, 47]
        rw [List.length_drop, Hlen.out] at hroom
        have hge1 := Lib.index_ge (l.drop (at_ + t + 2)) [42, 47]
        obtain ⟨x, hx⟩ : ∃ x, Lib.index (l.drop (at_ + t + 2)) [42, 47] = x := ⟨_, rfl⟩
        rw [hx] at ci hroom hsk2 hge1
        have Ci := Lib.hid ci
        clear cp1 cp2 hp1 hp2 hl2 ci hx
        by_cases hneg : x < 0
        · have hr : skipL l at0 = (at_ + t, 22) := by rw [hsk2, if_pos hneg]
          have d1 : decide (x < 0) = true := decide_eq_true hneg
          have Hr := Lib.hid hr
          clear hsk2 hr hroom
          go_wp2_with fail
          refine (C1.out _).mono ?_; rintro e w1 ⟨rfl, hb1⟩
          have hg1 := Hb.out.trans (hb1.mono Hb.out.size)
          have Hg1 := Lib.hid hg1; clear hg1 hb1
          go_wp2_with fail
          refine (Cp1.out _).mono ?_; rintro e w9 ⟨rfl, rfl⟩
          go_wp2_with fail
          refine (Cp2.out _).mono ?_; rintro e w9 ⟨rfl, rfl⟩
          go_wp2_with fail
          refine (Ci.out _ ((Hg1.out.cell (p := ⟨2, 0, none⟩) hw2).trans Hm.out)).mono ?_; rintro e w9 ⟨rfl, rfl⟩
          go_wp2
          go_ret2
          exact ⟨by rw [Hr.out]; rfl, Hg1.out⟩
        · have d1 : decide (x < 0) = false := decide_eq_false hneg
          obtain ⟨j, rfl⟩ := Int.eq_ofNat_of_zero_le (show 0 ≤ x by omega)
          have hr : skipL l at0 = skipF g l (at_ + t + (j + 4)) := by rw [hsk2, if_neg hneg, Int.toNat_natCast]
          have hj := hroom (by omega)
          have hj2 : at_ + t + (j + 4) ≤ s.size := by simp at hj; omega
          have Hr := Lib.hid hr
          clear hsk2 hr hroom hj
          go_wp2_with fail
          refine (C1.out _).mono ?_; rintro e w1 ⟨rfl, hb1⟩
          have hg1 := Hb.out.trans (hb1.mono Hb.out.size)
          have Hg1 := Lib.hid hg1; clear hg1 hb1
          go_wp2_with fail
          refine (Cp1.out _).mono ?_; rintro e w9 ⟨rfl, rfl⟩
          go_wp2_with fail
          refine (Cp2.out _).mono ?_; rintro e w9 ⟨rfl, rfl⟩
          go_wp2_with fail
          refine (Ci.out _ ((Hg1.out.cell (p := ⟨2, 0, none⟩) hw2).trans Hm.out)).mono ?_; rintro e w9 ⟨rfl, rfl⟩
          go_wp2
          go_roundg g
          case measure => omega
          case rel => exact ⟨at_ + t + (j + 4), hj2, by go_num, Hg1.out, Hr.out, by omega⟩
      | false =>
        rw [hp2] at cp2
        rw [if_neg (by rw [hp2]; simp)] at hsk2
        have Cp2 := Lib.hid cp2
        have Hr := Lib.hid hsk2
        clear cp1 cp2 hp1 hp2 hsk2
        go_wp2_with fail
        refine (C1.out _).mono ?_; rintro e w1 ⟨rfl, hb1⟩
        have hg1 := Hb.out.trans (hb1.mono Hb.out.size)
        have Hg1 := Lib.hid hg1; clear hg1 hb1
        go_wp2_with fail
        refine (Cp1.out _).mono ?_; rintro e w9 ⟨rfl, rfl⟩
        go_wp2_with fail
        refine (Cp2.out _).mono ?_; rintro e w9 ⟨rfl, rfl⟩
        go_wp2
        go_ret2
        exact ⟨by rw [Hr.out]; rfl, Hg1.out⟩
end Go.Proofs.YtokdoklkaojheaaDoor

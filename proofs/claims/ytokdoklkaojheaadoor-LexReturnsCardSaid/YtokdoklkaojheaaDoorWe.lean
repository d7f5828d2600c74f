import Derived.Test.YtokdoklkaojheaaDoorWd
namespace Go.Proofs.YtokdoklkaojheaaDoor
open Go.RowKit

theorem Tryd.info3' : (Tryd.prog.info? 3).map (fun i => (i.zero, i.size, i.bytes)) = some (some (.int .i64 0), 1, 8) := by kernel_rfl

def intsN (l : List Nat) : List Value := l.map fun (x : Nat) => .int .i64 (x : Int)
theorem starts_take_nl (s : ByteArray) (k : Nat) (h : k < s.size) (e : ((s[k].toNat : Int) == 10) = true) : starts (s.data.toList.take (k + 1)) = starts (s.data.toList.take k) ++ [k + 1] := by
  rw [u8_ten] at e; simp at e
  rw [take_snoc s k h]; unfold starts; rw [startsFrom_snoc]; simp [e]; omega
theorem starts_take_other (s : ByteArray) (k : Nat) (h : k < s.size) (e : ((s[k].toNat : Int) == 10) = false) : starts (s.data.toList.take (k + 1)) = starts (s.data.toList.take k) := by
  rw [u8_ten] at e; simp at e
  rw [take_snoc s k h]; unfold starts; rw [startsFrom_snoc]; simp [e]
theorem starts_take_le (s : ByteArray) (k : Nat) : (starts (s.data.toList.take k)).length ≤ k + 1 := by
  rw [starts_length]
  have := List.count_le_length (a := (10 : UInt8)) (l := s.data.toList.take k)
  have : (s.data.toList.take k).length ≤ k := List.length_take_le _ _
  omega

/-- What the loop of the reference's Offset leaves: the starts of the lines, in new memory. -/
def StartsIn (w0 w : World) (v : Value) (l : List Nat) : Prop := w.ownsRow w0.heap.size 3 1 v l.length (intsN l) ∧ Below w0.heap.size w0 w

theorem startsIn_appended {w0 wr w1 : World} {v v' : Value} {l : List Nat} {o : Obj} {x : Nat} (h : StartsIn w0 wr v l) (h' : w1.ownsRow w0.heap.size 3 1 v' (l.length + 1) (intsN l ++ [.int .i64 (x : Int)])) (hg : (wr.alloc o).grownBy w1 v.ownBlock) :
    StartsIn w0 w1 v' (l ++ [x]) := by
  refine ⟨by simpa [intsN] using h', (h.2.alloc h.2.size o).grown hg (by have := h.2.size; simp; omega) (fun j hj => by have := (h.1.lt j hj).1; omega)⟩

theorem startsIn_slice {w0 w : World} {v : Value} {l : List Nat} (h : StartsIn w0 w v l) (hl : 1 ≤ l.length) : ∃ g cap, v = .slice (some ⟨g, 0, none⟩) l.length cap ∧ ∀ j : Nat, j < l.length → w.cell? ⟨g, j, none⟩ = some (.int .i64 (l.getD j 0)) := by
  have hown := h.1
  rcases hown.2 with ⟨_, h2⟩ | ⟨g, cap, cur, rfl, _⟩
  · omega
  · refine ⟨g, cap, rfl, fun j hj => ?_⟩
    rw [hown.cellAt j (by omega)]
    simp [intsN, List.getD, List.getElem?_eq_getElem hj]

set_option maxHeartbeats 1000000 in
theorem refOffset_long (s : ByteArray) (line col : Int) (w : World) (hs : s.size ≤ maxLen) (h : (65536 : Int) < s.size) :
    Calls Tryd.prog 26 #[.string s, .int .i64 line, .int .i64 col] w fun r w' => r = .returned (.tuple #[.int .i64 0, .int .i64 23]) ∧ Below w.heap.size w w' := by
  unfold maxLen at hs
  go_enter Tryd.func26, Tryd.ntmps26
  go_wp2
  go_ret2
  exact ⟨rfl, Below.refl _ _⟩

set_option maxHeartbeats 1000000 in
set_option maxRecDepth 100000 in
theorem refOffset_any (s : ByteArray) (line col : Int) (w : World) (h : (s.size : Int) ≤ 65536) (hcol : col ≤ 9223372036854775807) :
    Calls Tryd.prog 26 #[.string s, .int .i64 line, .int .i64 col] w fun r w' => r = .returned (.tuple #[.int .i64 (offOf s.data.toList line col).1, .int .i64 (offOf s.data.toList line col).2]) ∧ Below w.heap.size w w' := by
  obtain ⟨i0, hi, hz0, hz1, hz2⟩ := info_parts Tryd.info3'
  go_enter Tryd.func26, Tryd.ntmps26
  go_wp2
  go_loopw [8, 9] (fun v i wr => ∃ k : Nat, k ≤ s.size ∧ i = .int .i64 k ∧ StartsIn w wr v (starts (s.data.toList.take k))) (fun _ i _ => s.size - (intOf i).toNat)
  case atStart => 
    refine ⟨0, Nat.zero_le _, rfl, ?_, (Below.refl _ _).alloc (Nat.le_refl _) _⟩
    exact World.ownsRow_lit w #[.int .i64 0] 1 (Nat.le_refl _) (by decide) rfl
  case round =>
    obtain ⟨k, hk, rfl, hst⟩ := hrel
    by_cases hlt : k < s.size
    · have hB := hst.2.size
      have hL := starts_take_le s k
      obtain ⟨m, hm⟩ : ∃ m, (starts (s.data.toList.take k)).length = m := ⟨_, rfl⟩
      have hown := hst.1
      rw [hm] at hown hL
      have Hst := Lib.hid hst; clear hst
      have Hm := Lib.hid hm; clear hm
      have hx : ((k : Int) + 1) = ((k + 1 : Nat) : Int) := by omega
      have Hx := Lib.hid hx; clear hx
      go_wp2_with (at_builtin; refine wpList_append_own _ rfl _ _ 91 rfl w.heap.size 3 i0 (.int .i64 0) 1 8 Tryd.underlying91 hi hz0 hz1 hz2 rfl (by decide) _ _ _ rfl (hown.alloc _) ⟨wr.heap.size, 0, none⟩ 1 1 [.int .i64 ((k : Int) + 1)] rfl rfl ?c1 ?c2 ?c3 ?c4 ?c5 ?_)
      case c1 => exact cell_one_new _ _ _
      case c2 => simp [Value.oneCell']
      case c3 => unfold maxLen; omega
      case c4 => omega
      case c5 => simp; omega
      · intro v' w1 hown' hgrow _
        have ht : ((s[k].toNat : Int) == 10) = true := by assumption
        have hnew : StartsIn w w1 v' (starts (s.data.toList.take (k + 1))) := by
          rw [starts_take_nl s k hlt ht]
          exact startsIn_appended Hst.out (by rw [Hm.out]; rw [Hx.out] at hown'; exact hown') hgrow
        clear hown' hown
        go_wp2
        go_roundw
        case rel => exact ⟨k + 1, by omega, by go_num, hnew⟩
        case measure => simp [intOf]; omega
      · have ht : ((s[k].toNat : Int) == 10) = false := by first | assumption | simpa using (by assumption : ¬ ((s[k].toNat : Int) == 10) = true)
        go_roundw
        case rel => exact ⟨k + 1, by omega, by go_num, by rw [starts_take_other s k hlt ht]; exact Hst.out⟩
        case measure => simp [intOf]; omega
    · have hks : k = s.size := by omega
      subst hks
      rw [List.take_of_length_le (by simp)] at hst
      have hB := hst.2
      have hln : 1 ≤ (starts s.data.toList).length := by simp [starts]
      have hlm := starts_take_le s s.size
      rw [List.take_of_length_le (by simp)] at hlm
      obtain ⟨g, cap, hv, hcell⟩ := startsIn_slice hst hln
      subst hv
      have hbd : ∀ j, j < (starts s.data.toList).length → (starts s.data.toList).getD j 0 ≤ s.size := by
        intro j hj
        have : (starts s.data.toList).getD j 0 ∈ starts s.data.toList := by rw [List.getD, List.getElem?_eq_getElem hj]; exact List.getElem_mem _
        have := starts_bound _ _ this
        simpa using this
      have hb1 : ∀ j, 1 ≤ j → j < (starts s.data.toList).length → 1 ≤ (starts s.data.toList).getD j 0 := by
        intro j h1 hj
        obtain ⟨i, rfl⟩ : ∃ i, j = i + 1 := ⟨j - 1, by omega⟩
        have h9 : i < (startsFrom 0 s.data.toList).length := by simp [starts] at hj; omega
        have : (starts s.data.toList).getD (i + 1) 0 ∈ startsFrom 0 s.data.toList := by
          simp only [starts, List.getD, List.getElem?_cons_succ, List.getElem?_eq_getElem h9, Option.getD_some]
          exact List.getElem_mem _
        have := startsFrom_bound _ _ _ this
        omega
      obtain ⟨L, hL⟩ : ∃ L, starts s.data.toList = L := ⟨_, rfl⟩
      obtain ⟨m, hm⟩ : ∃ m, L.length = m := ⟨_, rfl⟩
      have hoff : offOf s.data.toList line col = if line < 1 ∨ (m : Int) < line then (0, 3) else if col < 1 ∨ (((if line.toNat < m then L.getD line.toNat 0 - 1 else s.size : Nat) : Int) - (L.getD (line.toNat - 1) 0 : Nat)) < col - 1 then (0, 3) else ((L.getD (line.toNat - 1) 0 : Nat) + col - 1, 0) := by
        unfold offOf lineEnd
        rw [hL, hm]
        by_cases h1 : line < 1 ∨ (m : Int) < line
        · simp only [h1, if_true]
        · have e1 : line.toNat - 1 + 1 = line.toNat := by omega
          rw [e1]; simp
      have Hoff := Lib.hid hoff; clear hoff
      rw [hL, hm] at hlm hln
      rw [hL] at hbd hcell hb1
      rw [hm] at hbd hcell hb1
      rw [hL, hm]
      clear hst
      have HL := Lib.hid hL; clear hL
      have Hm := Lib.hid hm; clear hm
      have Hcell := Lib.hid hcell; clear hcell
      have Hbd := Lib.hid hbd; clear hbd
      have Hb1 := Lib.hid hb1; clear hb1
      by_cases h1 : line < 1
      · have d1 : decide (line < 1) = true := by simpa using h1
        go_wp2
        go_ret2
        exact ⟨by rw [Hoff.out]; simp [h1], hB⟩
      · have d1 : decide (line < 1) = false := by simpa using h1
        by_cases h2 : (m : Int) < line
        · have d2 : decide ((m : Int) < line) = true := by simpa using h2
          go_wp2
          go_ret2
          exact ⟨by rw [Hoff.out]; simp [h2], hB⟩
        · have d2 : decide ((m : Int) < line) = false := by simpa using h2
          have hl1 : 1 ≤ line := by omega
          have hl2 : line ≤ m := by omega
          clear h1 h2
          have hcA := Hcell.out (line.toNat - 1) (by omega)
          have hA := Hbd.out (line.toNat - 1) (by omega)
          obtain ⟨a, ha⟩ : ∃ a, L.getD (line.toNat - 1) 0 = a := ⟨_, rfl⟩
          rw [ha] at hcA hA
          have Ha := Lib.hid ha; clear ha
          by_cases h3 : line < m
          · have d3 : decide (line < (m : Int)) = true := by simpa using h3
            have hcE := Hcell.out line.toNat (by omega)
            have hE := Hbd.out line.toNat (by omega)
            have hE1 := Hb1.out line.toNat (by omega) (by omega)
            obtain ⟨b, hb⟩ : ∃ b, L.getD line.toNat 0 = b := ⟨_, rfl⟩
            rw [hb] at hcE hE hE1
            have Hb := Lib.hid hb; clear hb
            by_cases h4 : col < 1
            · have d4 : decide (col < 1) = true := by simpa using h4
              go_wp2
              go_ret2
              exact ⟨by rw [Hoff.out]; simp [h4], hB⟩
            · have d4 : decide (col < 1) = false := by simpa using h4
              have h41 : 1 ≤ col := by omega
              clear h4
              by_cases h5 : (b : Int) - 1 - a < col - 1
              · have d5 : decide ((b : Int) - 1 - a < col - 1) = true := by simpa using h5
                go_wp2
                go_ret2
                exact ⟨by rw [Hoff.out, Ha.out]; rw [if_pos (show line.toNat < m by omega), Hb.out]; rw [if_neg (by omega), if_pos (by omega)]; rfl, hB⟩
              · have d5 : decide ((b : Int) - 1 - a < col - 1) = false := by simpa using h5
                have h51 : col - 1 ≤ (b : Int) - 1 - a := by omega
                clear h5
                go_wp2
                go_ret2
                exact ⟨by rw [Hoff.out, Ha.out]; rw [if_pos (show line.toNat < m by omega), Hb.out]; rw [if_neg (by omega), if_neg (by omega)]; rfl, hB⟩
          · have d3 : decide (line < (m : Int)) = false := by simpa using h3
            have h31 : line = m := by omega
            have H31 := Lib.hid h31; clear h31
            have h32 : ¬ line.toNat < m := by omega
            clear h3
            by_cases h4 : col < 1
            · have d4 : decide (col < 1) = true := by simpa using h4
              go_wp2
              go_ret2
              exact ⟨by rw [Hoff.out]; simp [h4], hB⟩
            · have d4 : decide (col < 1) = false := by simpa using h4
              have h41 : 1 ≤ col := by omega
              clear h4
              by_cases h5 : (s.size : Int) - a < col - 1
              · have d5 : decide ((s.size : Int) - a < col - 1) = true := by simpa using h5
                go_wp2
                go_ret2
                exact ⟨by rw [Hoff.out, Ha.out]; rw [if_neg h32]; rw [if_neg (by omega), if_pos (by omega)]; rfl, hB⟩
              · have d5 : decide ((s.size : Int) - a < col - 1) = false := by simpa using h5
                have h51 : col - 1 ≤ (s.size : Int) - a := by omega
                clear h5
                go_wp2
                go_ret2
                exact ⟨by rw [Hoff.out, Ha.out]; rw [if_neg h32]; rw [if_neg (by omega), if_neg (by omega)]; rfl, hB⟩
end Go.Proofs.YtokdoklkaojheaaDoor

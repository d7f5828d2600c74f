import Derived.Test.YtokdoklkaojheaaDoorWu
namespace Go.Proofs.YtokdoklkaojheaaDoor
open Go.RowKit

/-! the lengths of what is read -/
theorem qualR_le (l : List UInt8) : (qualR l).2.1 ≤ l.length := by
  unfold qualR
  split
  · simp
  split
  · simp
  split
  · simp
  · rename_i h _ _
    simp only
    have hq : qualIn l (wlen l) = true := by simpa using h
    unfold qualIn at hq
    simp only [Bool.and_eq_true] at hq
    have h1 := hasPrefix_len hq.2
    have h2 := wlen_le (l.drop (wlen l + 2))
    simp at h1 h2
    omega
theorem wordR_le (l : List UInt8) : (wordR l).2.1 ≤ l.length := by
  have := wlen_le l
  unfold wordR
  split
  · simp
  split <;> simpa using this
theorem numR_le (l : List UInt8) : (numR l).2.1 ≤ l.length := by
  have := numEnd_le l
  unfold numR
  split
  · simp
  split
  · simp
  · simpa using this
theorem signR_le (l : List UInt8) : (signR l).2.1 ≤ l.length := by
  have h : ∀ n, signAt l n = true → n ≤ l.length := by
    intro n hn; unfold signAt at hn; simp only [Bool.and_eq_true, decide_eq_true_eq] at hn; exact hn.1
  have hl : signLen l ≤ l.length := by
    unfold signLen
    split
    · exact h _ (by assumption)
    split
    · exact h _ (by assumption)
    split
    · exact h _ (by assumption)
    split
    · exact h _ (by assumption)
    · simp
  unfold signR
  split
  · simp
  · exact hl
theorem readL_le (n : Nat) : ∀ rs : List (Nat × Nat × Int), (∀ r ∈ rs, r.2.1 ≤ n) → (readL rs).2.1 ≤ n
  | [], _ => by simp [readL]
  | r :: rs, h => by
    rw [readL]; split
    · exact h r (by simp)
    · exact readL_le n rs (fun x hx => h x (by simp [hx]))
theorem readL_pos : ∀ rs : List (Nat × Nat × Int), (readL rs).2.2 = 0 → 0 < (readL rs).2.1
  | [], h => by simp [readL] at h
  | r :: rs, h => by
    rw [readL] at h ⊢; split
    · rename_i hc
      rw [if_pos hc] at h
      rcases hc with hc | hc
      · exact absurd h hc
      · exact hc
    · rename_i hc
      rw [if_neg hc] at h
      exact readL_pos rs h
theorem allRs_le (l : List UInt8) : (readL (allRs l)).2.1 ≤ l.length := by
  apply readL_le
  intro r hr
  simp only [allRs, List.mem_cons, List.not_mem_nil, or_false] at hr
  rcases hr with rfl | rfl | rfl | rfl
  · exact qualR_le l
  · exact wordR_le l
  · exact numR_le l
  · exact signR_le l

/-! the tokens of a text -/
structure Item where
  kind : Nat
  text : ByteArray
  start : Nat
  stop : Nat
  err : Int
def encI (x : Item) : Array Value := #[.agg #[.int .i64 x.kind, .string x.text, .int .i64 x.start, .int .i64 x.stop], .int .i64 x.err]

def readAt (s : ByteArray) (p : Nat) : Nat × Nat × Int := readL (allRs (s.data.toList.drop p))
def itemAt (s : ByteArray) (at_ : Nat) : Option Item :=
  if (skipL s.data.toList at_).2 = 0 then
    if (skipL s.data.toList at_).1 = s.size then none
    else some ⟨(readAt s (skipL s.data.toList at_).1).1, (s.extract (skipL s.data.toList at_).1 s.size).extract 0 (readAt s (skipL s.data.toList at_).1).2.1, (skipL s.data.toList at_).1,
      (skipL s.data.toList at_).1 + (readAt s (skipL s.data.toList at_).1).2.1, (readAt s (skipL s.data.toList at_).1).2.2⟩
  else some ⟨0, ⟨#[]⟩, (skipL s.data.toList at_).1, (skipL s.data.toList at_).1, (skipL s.data.toList at_).2⟩
def toksF (s : ByteArray) : Nat → Nat → List Item
  | 0, _ => []
  | g + 1, at_ => match itemAt s at_ with
    | none => []
    | some x => x :: (if x.err = 0 then toksF s g x.stop else [])
def toks (s : ByteArray) : List Item := toksF s (s.size + 1) 0

theorem skipF_le (l : List UInt8) : ∀ g at_, at_ ≤ l.length → at_ ≤ (skipF g l at_).1 ∧ (skipF g l at_).1 ≤ l.length
  | 0, at_, h => ⟨Nat.le_refl _, h⟩
  | g + 1, at_, h => by
    have h1 := skipAt_le l at_ h
    have h0 : at_ ≤ skipAt l at_ := by unfold skipAt; omega
    rw [skipF]
    split
    · have h2 := tw_le notNlB (l.drop (skipAt l at_))
      rw [List.length_drop] at h2
      have := skipF_le l g (skipAt l at_ + tw notNlB (l.drop (skipAt l at_))) (by omega)
      exact ⟨by omega, this.2⟩
    split
    · rename_i hp
      have hp2 := hasPrefix_len hp
      rw [List.length_drop] at hp2
      simp at hp2
      split
      · exact ⟨h0, h1⟩
      · rename_i hi
        have hr := Lib.index_room (l.drop (skipAt l at_ + 2)) [42, 47] (by omega)
        rw [List.length_drop] at hr
        simp at hr
        have := skipF_le l g (skipAt l at_ + ((Lib.index (l.drop (skipAt l at_ + 2)) [42, 47]).toNat + 4)) (by omega)
        exact ⟨by omega, this.2⟩
    · exact ⟨h0, h1⟩
theorem skipL_le (s : ByteArray) (at_ : Nat) (h : at_ ≤ s.size) : at_ ≤ (skipL s.data.toList at_).1 ∧ (skipL s.data.toList at_).1 ≤ s.size := by
  have := skipF_le s.data.toList (s.data.toList.length + 1) at_ (by simpa using h)
  simpa [skipL] using this
theorem readAt_le (s : ByteArray) (p : Nat) (h : p ≤ s.size) : p + (readAt s p).2.1 ≤ s.size := by
  have := allRs_le (s.data.toList.drop p)
  rw [List.length_drop] at this
  simp at this
  unfold readAt; omega

/-! the iterator's maker -/
theorem places_any (s : ByteArray) (kb sb : Nat) (w : World) :
    Calls Tryd.prog 37 #[.agg #[.map (some kb), .map (some sb)], .string s] w fun e w' =>
      e = .returned (.func (.func 71) #[] #[.pointer (some ⟨w.heap.size + 1, 0, none⟩), .pointer (some ⟨w.heap.size, 0, none⟩)]) ∧ (w.alloc (.cells #[.map (some kb), .map (some sb)] 69)).alloc (.cells #[.string s] 9) = w' := by
  go_enter Tryd.func37, Tryd.ntmps37
  go_wp2
  go_ret
  exact ⟨rfl, rfl⟩

/-- the table of the rules, as a block -/
def tableV (w : World) (v : Value) : Prop := ∃ g cap, v = .slice (some ⟨g, 0, none⟩) 4 cap ∧ (∃ cur, w.heap[g]? = some (.cells cur 126 (0, 0))) ∧ (∀ k (h : k < 4), w.cell? ⟨g, k, none⟩ = some (.func (.func ([83, 84, 97, 98][k])) #[] #[]))

set_option maxHeartbeats 1000000 in
set_option maxRecDepth 100000 in
theorem rules_table (w : World) :
    Calls Tryd.prog 72 #[] w fun e w' => ∃ v, e = .returned v ∧ tableV w' v ∧ Below w.heap.size w w' := by
  obtain ⟨i0, hi, hz0, hz1, hz2⟩ := info_parts Tryd.info126
  have hown := World.ownsRow_lit (base := w.heap.size) (e := 126) (size := 1) w #[fv 83, fv 84] 2 (Nat.le_refl _) (by decide) rfl
  go_enter Tryd.func72, Tryd.ntmps72
  go_wp2_with fail
  refine (nameRules_any _).mono ?_; rintro e w1 ⟨rfl, rfl⟩
  go_wp2_with (at_builtin; refine wpList_append_own _ rfl _ _ 86 rfl w.heap.size 126 i0 (.agg #[.nilFunc]) 1 8 Tryd.underlying86 hi hz0 hz1 hz2 rfl (by decide) _ _ _ rfl (hown.alloc _) ⟨w.heap.size + 1, 0, none⟩ 2 2 [fv 97, fv 98] rfl rfl ?c1 ?c2 ?c3 ?c4 ?c5 ?_)
  case c1 => intro j u hj; have := two_new (w.alloc (.cells #[fv 83, fv 84] 126)) (fv 97) (fv 98) 126 j u hj; simpa using this
  case c2 => simp [Value.oneCell']
  case c3 => decide
  case c4 => decide
  case c5 => simp; omega
  · intro v' w1 hown' hgrow _
    have hbig : Below w.heap.size w w1 := (below_two w _ _).grown hgrow (by simp; omega) (fun j hj => by cases hj; exact Nat.le_refl _)
    have hex : ∃ g cap, v' = .slice (some ⟨g, 0, none⟩) 4 cap ∧ (∃ cur, w1.heap[g]? = some (.cells cur 126 (0, 0))) ∧ (∀ k (h : k < 4), w1.cell? ⟨g, k, none⟩ = some (.func (.func ([83, 84, 97, 98][k])) #[] #[])) := by
      rcases hown'.2 with ⟨_, h⟩ | ⟨g, cap, cur, rfl, h1, h2, _⟩
      · omega
      · refine ⟨g, cap, rfl, ⟨cur, h2⟩, fun k hk => ?_⟩
        rw [hown'.cellAt k (by omega)]
        match k, hk with
        | 0, _ => rfl
        | 1, _ => rfl
        | 2, _ => rfl
        | 3, _ => rfl
    obtain ⟨g, cap, rfl, hcell⟩ := hex
    have Hcell := Lib.hid hcell; clear hcell
    clear hown' hgrow hown
    have Hbig := Lib.hid hbig; clear hbig
    go_wp2
    go_ret
    exact ⟨_, rfl, ⟨g, cap, rfl, Hcell.out.1, Hcell.out.2⟩, Hbig.out⟩

theorem ruleAll (s : ByteArray) (kb sb : Nat) (hs : s.size ≤ 65536) : ∀ k (h : k < [83, 84, 97, 98].length) (h' : k < (allRs s.data.toList).length), Rule [83, 84, 97, 98][k] s kb sb (allRs s.data.toList)[k]
  | 0, _, _ => ⟨fun args w => enters_of Tryd.func83 (by kernel_rfl) rfl args w, fun w h => qualified_any s kb sb w hs h⟩
  | 1, _, _ => ⟨fun args w => enters_of Tryd.func84 (by kernel_rfl) rfl args w, fun w h => word_any s kb sb w hs h⟩
  | 2, _, _ => ⟨fun args w => enters_of Tryd.func97 (by kernel_rfl) rfl args w, fun w _ => number_any s kb sb w hs⟩
  | 3, _, _ => ⟨fun args w => enters_of Tryd.func98 (by kernel_rfl) rfl args w, fun w h => sign_any s kb sb w hs h⟩

/-- the table read -/
theorem readTable_any (s : ByteArray) (kb sb : Nat) (v : Value) (w : World) (hs : s.size ≤ 65536) (hsc : IsScanner w kb sb) (hv : tableV w v) :
    Calls Tryd.prog 47 #[.agg #[.map (some kb), .map (some sb)], .string s, v] w fun e w' => e = .returned (rdV s (readL (allRs s.data.toList))) ∧ Below w.heap.size w w' := by
  obtain ⟨g, cap, rfl, ⟨cur, hg⟩, hc⟩ := hv
  exact read_any s kb sb g 4 cap [83, 84, 97, 98] (allRs s.data.toList) w hs hsc rfl rfl (by omega) (Array.getElem?_eq_some_iff.1 hg).1 hc (ruleAll s kb sb hs)
end Go.Proofs.YtokdoklkaojheaaDoor

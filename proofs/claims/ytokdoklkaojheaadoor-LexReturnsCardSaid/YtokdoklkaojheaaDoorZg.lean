import Derived.Test.YtokdoklkaojheaaDoorZd
namespace Go.Proofs.YtokdoklkaojheaaDoor
open Go.RowKit

/-- the signs as the specification lists them -/
def sgRef : List (List UInt8) := [[33], [33, 61], [35], [37], [38], [38, 38], [40], [41], [42], [43], [44], [45], [46], [46, 46], [47], [58], [58, 58], [58, 61], [58, 124], [59], [60], [60, 60], [60, 61], [60, 61, 61, 62], [61], [61, 61], [61, 61, 62], [61, 62], [62], [62, 61], [62, 62], [63], [91], [93], [94], [123], [124], [124, 124], [125]]
def sgRB : List ByteArray := sgRef.map fun l => ⟨l.toArray⟩
theorem sgRef_mem (l : List UInt8) : l ∈ sgRef ↔ l ∈ sgL := by
  have h1 : ∀ x ∈ sgRef, x ∈ sgL := by decide +kernel
  have h2 : ∀ x ∈ sgL, x ∈ sgRef := by decide +kernel
  exact ⟨h1 l, h2 l⟩

set_option maxRecDepth 100000 in
theorem refSigns_any (w : World) :
    Calls Tryd.prog 17 #[] w fun e w' => e = .returned (.slice (some ⟨w.heap.size, 0, none⟩) 39 39) ∧ w' = w.alloc (.cells (sgRB.map Value.string).toArray 9) := by
  go_enter Tryd.func17, Tryd.ntmps17
  go_wp2
  go_ret
  exact ⟨rfl, rfl⟩

def bestS (s : ByteArray) (n : Nat) (z : ByteArray) : Nat := if n < z.size ∧ z.size ≤ s.size ∧ (s.extract 0 z.size).toList = z.toList then z.size else n
def bestK (s : ByteArray) (k : Nat) : Nat := (sgRB.take k).foldl (bestS s) 0

theorem bestK_step (s : ByteArray) (k : Nat) (h : k < sgRB.length) : bestK s (k + 1) = bestS s (bestK s k) (sgRB.getD k ⟨#[]⟩) := by
  unfold bestK
  rw [List.take_succ_eq_append_getElem h, List.foldl_append, getD_at _ _ _ h]; rfl

theorem best_spec (s : ByteArray) : ∀ (L : List ByteArray) (n0 : Nat), n0 ≤ L.foldl (bestS s) n0 ∧ (∀ z ∈ L, z.size ≤ s.size → (s.extract 0 z.size).toList = z.toList → z.size ≤ L.foldl (bestS s) n0) ∧
    (L.foldl (bestS s) n0 = n0 ∨ ∃ z ∈ L, z.size ≤ s.size ∧ (s.extract 0 z.size).toList = z.toList ∧ z.size = L.foldl (bestS s) n0)
  | [], n0 => ⟨Nat.le_refl _, by simp, Or.inl rfl⟩
  | z :: L, n0 => by
    rw [List.foldl_cons]
    obtain ⟨h1, h2, h3⟩ := best_spec s L (bestS s n0 z)
    have hb : n0 ≤ bestS s n0 z := by unfold bestS; split <;> omega
    have hz : z.size ≤ s.size → (s.extract 0 z.size).toList = z.toList → z.size ≤ bestS s n0 z := by
      intro g1 g2; unfold bestS
      by_cases g : n0 < z.size
      · rw [if_pos ⟨g, g1, g2⟩]; omega
      · rw [if_neg (fun h => g h.1)]; omega
    refine ⟨by omega, ?_, ?_⟩
    · intro y hy g1 g2
      rcases List.mem_cons.1 hy with rfl | hy
      · have := hz g1 g2; omega
      · exact h2 y hy g1 g2
    · rcases h3 with h3 | ⟨y, hy, g⟩
      · by_cases g : n0 < z.size ∧ z.size ≤ s.size ∧ (s.extract 0 z.size).toList = z.toList
        · right
          refine ⟨z, by simp, g.2.1, g.2.2, ?_⟩
          rw [h3]; unfold bestS; rw [if_pos g]
        · left; rw [h3]; unfold bestS; rw [if_neg g]
      · right; exact ⟨y, by simp [hy], g⟩

theorem signLen_of (l : List UInt8) (r : Nat) (hr : r ≤ 4) (h1 : ∀ m, r < m → m ≤ 4 → signAt l m = false) (h2 : r = 0 ∨ signAt l r = true) : signLen l = r := by
  have hc : r = 0 ∨ r = 1 ∨ r = 2 ∨ r = 3 ∨ r = 4 := by omega
  unfold signLen
  rcases hc with rfl | rfl | rfl | rfl | rfl
  · simp [h1 4 (by omega) (by omega), h1 3 (by omega) (by omega), h1 2 (by omega) (by omega), h1 1 (by omega) (by omega)]
  · have h := h2.resolve_left (by omega)
    simp [h1 4 (by omega) (by omega), h1 3 (by omega) (by omega), h1 2 (by omega) (by omega), h]
  · have h := h2.resolve_left (by omega)
    simp [h1 4 (by omega) (by omega), h1 3 (by omega) (by omega), h]
  · have h := h2.resolve_left (by omega)
    simp [h1 4 (by omega) (by omega), h]
  · have h := h2.resolve_left (by omega)
    simp [h]

theorem sg_sizes : ∀ x ∈ sgL, 1 ≤ x.length ∧ x.length ≤ 4 := by decide +kernel

theorem pre_iff (s : ByteArray) (z : List UInt8) : ((⟨z.toArray⟩ : ByteArray).size ≤ s.size ∧ (s.extract 0 (⟨z.toArray⟩ : ByteArray).size).toList = (⟨z.toArray⟩ : ByteArray).toList) ↔ (z.length ≤ s.size ∧ s.data.toList.take z.length = z) := by
  have e : (⟨z.toArray⟩ : ByteArray).size = z.length := by show z.toArray.size = _; simp
  rw [e, toList_eq, toList_eq, Lib.extract_data]
  simp

theorem sign_len (s : ByteArray) : signLen s.data.toList = if bestK s 39 = 0 ∧ s.size ≠ 0 ∧ (s.data.toList.getD 0 0).toNat = 95 then 1 else bestK s 39 := by
  have hl := list_size s
  obtain ⟨_, hb1, hb2⟩ := best_spec s sgRB 0
  have hB : bestK s 39 = sgRB.foldl (bestS s) 0 := by
    unfold bestK; rw [List.take_of_length_le (by decide)]
  rw [← hB] at hb1 hb2
  generalize bestK s 39 = r at *
  have g1 : ∀ z ∈ sgL, z.length ≤ s.size → s.data.toList.take z.length = z → z.length ≤ r := by
    intro z hz h1 h2
    have h3 := (pre_iff s z).2 ⟨h1, h2⟩
    have := hb1 ⟨z.toArray⟩ (List.mem_map.2 ⟨z, (sgRef_mem z).2 hz, rfl⟩) h3.1 h3.2
    have h6 : (⟨z.toArray⟩ : ByteArray).size = z.length := by show z.toArray.size = _; simp
    omega
  have g2 : r = 0 ∨ ∃ z ∈ sgL, z.length ≤ s.size ∧ s.data.toList.take z.length = z ∧ z.length = r := by
    rcases hb2 with h | ⟨y, hy, h1, h2, h3⟩
    · exact Or.inl h
    · obtain ⟨z, hz, rfl⟩ := List.mem_map.1 hy
      have h4 := (pre_iff s z).1 ⟨h1, h2⟩
      exact Or.inr ⟨z, (sgRef_mem z).1 hz, h4.1, h4.2, by rw [← h3]; show _ = z.toArray.size; simp⟩
  have hr4 : r ≤ 4 := by
    rcases g2 with h | ⟨z, hz, _, _, h⟩
    · omega
    · have := sg_sizes z hz; omega
  have hat : ∀ m, signAt s.data.toList m = true ↔ m ≤ s.size ∧ (s.data.toList.take m ∈ sgL ∨ s.data.toList.take m = [95]) := by
    intro m
    unfold signAt sgwL
    rw [hl, Bool.and_eq_true, decide_eq_true_eq, decide_eq_true_eq]
    simp [List.mem_append]
  have hup : ∀ m, r < m → signAt s.data.toList m = true → s.data.toList.take m = [95] ∧ m = 1 := by
    intro m hm h
    obtain ⟨h1, h2⟩ := (hat m).1 h
    have hlen : (s.data.toList.take m).length = m := by rw [List.length_take]; omega
    rcases h2 with h2 | h2
    · have := g1 _ h2 (by omega) (by rw [hlen])
      omega
    · exact ⟨h2, by rw [h2] at hlen; simpa using hlen.symm⟩
  have hone : s.size ≠ 0 → (s.data.toList.take 1 = [95] ↔ (s.data.toList.getD 0 0).toNat = 95) := by
    intro h0
    have h3 := drop_head s.data.toList 0 (by omega)
    rw [List.drop_zero] at h3
    rw [h3]
    simp only [List.take_succ_cons, List.take_zero, List.getD_cons_zero]
    constructor
    · intro h; have := List.head_eq_of_cons_eq h; rw [this]; rfl
    · intro h; have : s.data.toList.getD 0 0 = 95 := by rw [← UInt8.toNat_inj]; exact h
      rw [this]
  by_cases hr0 : r = 0
  · subst hr0
    by_cases hu : s.size ≠ 0 ∧ (s.data.toList.getD 0 0).toNat = 95
    · rw [if_pos ⟨rfl, hu.1, hu.2⟩]
      refine signLen_of _ 1 (by omega) ?_ (Or.inr ((hat 1).2 ⟨by omega, Or.inr ((hone hu.1).2 hu.2)⟩))
      intro m h1 h2
      cases h : signAt s.data.toList m with
      | false => rfl
      | true => have := (hup m (by omega) h).2; omega
    · rw [if_neg (fun h => hu h.2)]
      refine signLen_of _ 0 (by omega) ?_ (Or.inl rfl)
      intro m h1 h2
      cases h : signAt s.data.toList m with
      | false => rfl
      | true =>
        obtain ⟨h3, h4⟩ := hup m (by omega) h
        subst h4
        have h5 := ((hat 1).1 h).1
        exact absurd ⟨by omega, (hone (by omega)).1 h3⟩ hu
  · rw [if_neg (fun h => hr0 h.1)]
    obtain ⟨z, hz, h1, h2, h3⟩ := g2.resolve_left hr0
    refine signLen_of _ r hr4 ?_ (Or.inr ((hat r).2 ⟨by omega, Or.inl (by rw [← h3, h2]; exact hz)⟩))
    intro m h4 h5
    cases h : signAt s.data.toList m with
    | false => rfl
    | true => have := (hup m h4 h).2; omega

theorem sgRB_small (k : Nat) : (sgRB.getD k ⟨#[]⟩).size ≤ 4 := by
  by_cases h : k < sgRB.length
  · rw [getD_at _ _ _ h]
    have hm := List.getElem_mem h
    obtain ⟨z, hz, he⟩ := List.mem_map.1 hm
    rw [← he]
    have := sg_sizes z ((sgRef_mem z).1 hz)
    show z.toArray.size ≤ 4
    simp; omega
  · rw [List.getD, List.getElem?_eq_none (by omega)]; decide
theorem bestS_le (s : ByteArray) (n : Nat) (z : ByteArray) (h : n ≤ 4) (hz : z.size ≤ 4) : bestS s n z ≤ 4 := by
  unfold bestS; split <;> omega

set_option maxHeartbeats 8000000 in
set_option maxRecDepth 100000 in
theorem refSign_any (s : ByteArray) (w : World) (hs : s.size ≤ 65536) :
    Calls Tryd.prog 70 #[.string s] w fun e w' => e = .returned (.int .i64 (signLen s.data.toList)) ∧ Below w.heap.size w w' := by
  have hV := sign_len s
  obtain ⟨B, hB⟩ : ∃ B, signLen s.data.toList = B := ⟨_, rfl⟩
  rw [hB] at hV ⊢
  have HV := Lib.hid hV; clear hV hB
  obtain ⟨W, hW⟩ : ∃ W, w.alloc (.cells (sgRB.map Value.string).toArray 9) = W := ⟨_, rfl⟩
  have hst : strsAt W w.heap.size sgRB := by rw [← hW]; exact strs_new w sgRB 9
  have hb : Below w.heap.size w W := by rw [← hW]; exact (Below.refl _ _).alloc (Nat.le_refl _) _
  have cs := refSigns_any w
  rw [hW] at cs
  have Cs := Lib.hid cs; have Hst := Lib.hid hst; have Hb := Lib.hid hb
  clear cs hst hb hW
  go_enter Tryd.func70, Tryd.ntmps70
  go_wp2_with fail
  refine Cs.out.mono ?_; rintro e w1 ⟨rfl, he⟩; have he := he.symm; subst he
  go_wp2
  go_loopw [4, 5] (fun n i wr => ∃ k q : Nat, k ≤ 39 ∧ i = .int .i64 k ∧ n = .int .i64 (bestK s k) ∧ bestK s k ≤ 4 ∧ wr = W.drewN q) (fun _ i _ => 39 - (intOf i).toNat)
  case atStart => exact ⟨0, 0, by omega, rfl, rfl, by unfold bestK; simp, rfl⟩
  case round =>
    obtain ⟨k, q, hk, rfl, rfl, h4, rfl⟩ := hrel
    by_cases hlt : k < 39
    · have hkl : k < sgRB.length := hlt
      have hcell : W.cell? ⟨w.heap.size, k, none⟩ = some (.string (sgRB.getD k ⟨#[]⟩)) := Hst.out k hkl
      have hstep := bestK_step s k hkl
      have hz4 := sgRB_small k
      have hb4 := bestS_le s (bestK s k) (sgRB.getD k ⟨#[]⟩) h4 hz4
      rw [← hstep] at hb4
      obtain ⟨z, hz⟩ : ∃ z, sgRB.getD k ⟨#[]⟩ = z := ⟨_, rfl⟩
      rw [hz] at hcell hstep hz4
      have Hb4 := Lib.hid hb4; clear hb4 hz
      unfold bestS at hstep
      generalize bestK s k = n at *
      by_cases c1 : n < z.size
      · have d1 : decide ((n : Int) < z.size) = true := decide_eq_true (by omega)
        have d1' : decide (n < z.size) = true := decide_eq_true c1
        by_cases c2 : z.size ≤ s.size
        · have d2 : decide ((z.size : Int) ≤ s.size) = true := decide_eq_true (by omega)
          have d2' : decide (z.size ≤ s.size) = true := decide_eq_true c2
          cases c3 : ((s.extract 0 z.size).toList == z.toList) with
          | true =>
            rw [if_pos ⟨c1, c2, by simpa using c3⟩] at hstep
            have Hstep := Lib.hid hstep; clear hstep c1
            go_wp2
            go_quiet (fail)
            go_wp2
            go_roundw
            case rel => exact ⟨k + 1, _, by omega, by go_num, by rw [Hstep.out], Hb4.out, rfl⟩
            case measure => simp [intOf]; omega
          | false =>
            rw [if_neg (fun h => by rw [h.2.2] at c3; simp at c3)] at hstep
            have Hstep := Lib.hid hstep; clear hstep c1
            go_wp2
            go_quiet (fail)
            go_wp2
            go_roundw
            case rel => exact ⟨k + 1, _, by omega, by go_num, by rw [Hstep.out], Hb4.out, rfl⟩
            case measure => simp [intOf]; omega
        · have d2 : decide ((z.size : Int) ≤ s.size) = false := decide_eq_false (by omega)
          have d2' : decide (z.size ≤ s.size) = false := decide_eq_false c2
          rw [if_neg (fun h => c2 h.2.1)] at hstep
          have Hstep := Lib.hid hstep; clear hstep c1 c2
          go_wp2
          go_quiet (fail)
          go_wp2
          go_roundw
          case rel => exact ⟨k + 1, _, by omega, by go_num, by rw [Hstep.out], Hb4.out, rfl⟩
          case measure => simp [intOf]; omega
      · have d1 : decide ((n : Int) < z.size) = false := decide_eq_false (by omega)
        have d1' : decide (n < z.size) = false := decide_eq_false c1
        rw [if_neg (fun h => c1 h.1)] at hstep
        have Hstep := Lib.hid hstep; clear hstep c1
        go_wp2
        go_quiet (fail)
        go_wp2
        go_roundw
        case rel => exact ⟨k + 1, _, by omega, by go_num, by rw [Hstep.out], Hb4.out, rfl⟩
        case measure => simp [intOf]; omega
    · have hk39 : k = 39 := by omega
      subst hk39
      have HV2 := HV.out
      have hBq : Below w.heap.size w (W.drewN q) := below_drewN Hb.out q
      have HBq := Lib.hid hBq; clear hBq
      generalize bestK s 39 = n at *
      by_cases c0 : n = 0
      · subst c0
        by_cases c1 : s.size = 0
        · have he : (s.toList == []) = true := by rw [empty_beq]; simp [c1]
          rw [if_neg (fun h => h.2.1 c1)] at HV2
          have Hv := Lib.hid HV2
          clear HV2 c1
          go_wp2
          go_ret
          exact ⟨ret_int (by rw [Hv.out]; rfl), HBq.out⟩
        · have he : (s.toList == []) = false := by rw [empty_beq]; simp [c1]
          have hp0 : 0 < s.size := by omega
          rw [getD_zero s hp0] at HV2
          by_cases c2 : (s[0]'hp0).toNat = 95
          · have e2 : (((s[0]'hp0).toNat : Int) == 95) = true := by rw [c2]; rfl
            rw [if_pos ⟨rfl, c1, c2⟩] at HV2
            have Hv := Lib.hid HV2
            clear HV2 c1 c2
            go_wp2
            go_ret
            exact ⟨ret_int (by rw [Hv.out]; rfl), HBq.out⟩
          · have e2 : (((s[0]'hp0).toNat : Int) == 95) = false := by simp; omega
            rw [if_neg (fun h => c2 h.2.2)] at HV2
            have Hv := Lib.hid HV2
            clear HV2 c1 c2
            go_wp2
            go_ret
            exact ⟨ret_int (by rw [Hv.out]; rfl), HBq.out⟩
      · have d0 : ((n : Int) == 0) = false := by simp; omega
        rw [if_neg (fun h => c0 h.1)] at HV2
        have Hv := Lib.hid HV2
        clear HV2 c0
        go_wp2
        go_ret
        exact ⟨ret_int (by rw [Hv.out]), HBq.out⟩
end Go.Proofs.YtokdoklkaojheaaDoor

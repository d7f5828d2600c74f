import Derived.Test.YtokdoklkaojheaaDoorYi
import Derived.Test.YtokdoklkaojheaaDoorYb
import Derived.Test.YtokdoklkaojheaaDoorWv
namespace Go.Proofs.YtokdoklkaojheaaDoor
open Go.RowKit

theorem nameRs_le (l : List UInt8) : (readL (nameRs l)).2.1 ≤ l.length := by
  apply readL_le
  intro r hr
  simp only [nameRs, List.mem_cons, List.not_mem_nil, or_false] at hr
  rcases hr with rfl | rfl
  · exact qualR_le l
  · exact wordR_le l

theorem ruleNames (s : ByteArray) (kb : Nat) (hs : s.size ≤ 65536) : ∀ k (h : k < [83, 84].length) (h' : k < (nameRs s.data.toList).length), RuleN [83, 84][k] s kb (nameRs s.data.toList)[k]
  | 0, _, _ => ⟨fun args w => enters_of Tryd.func83 (by kernel_rfl) rfl args w, fun w h => qualified_anyN s kb w hs h⟩
  | 1, _, _ => ⟨fun args w => enters_of Tryd.func84 (by kernel_rfl) rfl args w, fun w h => word_anyN s kb w hs h⟩

/-- the two rules of names, read -/
theorem readNames_any (s : ByteArray) (kb rb : Nat) (w : World) (hs : s.size ≤ 65536) (hk : IsKw w kb) (h0 : w.cell? ⟨rb, 0, none⟩ = some (fv 83)) (h1 : w.cell? ⟨rb, 1, none⟩ = some (fv 84)) (hr : rb < w.heap.size) :
    Calls Tryd.prog 47 #[.agg #[.map (some kb), .map none], .string s, .slice (some ⟨rb, 0, none⟩) 2 2] w fun e w' =>
      e = .returned (rdV s (readL (nameRs s.data.toList))) ∧ Below w.heap.size w w' := by
  refine read_anyN s kb rb 2 2 [83, 84] (nameRs s.data.toList) w hs hk rfl rfl (by omega) hr ?_ (ruleNames s kb hs)
  intro k h
  match k, h with
  | 0, _ => exact h0
  | 1, _ => exact h1

theorem belD1 (V : World) (o : Obj) : Below V.heap.size V (V.drew.alloc o) := (Below.refl _ _).drew.alloc (Nat.le_refl _) o
theorem belD2 (V : World) (o o' : Obj) : Below V.heap.size V ((V.drew.alloc o).alloc o') := (belD1 V o).alloc (by simp) o'

abbrev tabO : Obj := .cells #[fv 83, fv 84] 126
abbrev placeO : Obj := .cells #[.int .i64 0, .string ⟨#[]⟩, .int .i64 0, .int .i64 0] 73
/-- a new place, not yet written -/
structure NewPlace (w : World) (b : Nat) : Prop where
  c0 : w.cell? ⟨b, 0, none⟩ = some (.int .i64 0)
  c1 : w.cell? ⟨b, 1, none⟩ = some (.string ⟨#[]⟩)
  c2 : w.cell? ⟨b, 2, none⟩ = some (.int .i64 0)
  c3 : w.cell? ⟨b, 3, none⟩ = some (.int .i64 0)
  fz : ∀ o, w.frozen? ⟨b, o, none⟩ = false
  lt : b < w.heap.size
theorem NewPlace.made (w : World) : NewPlace (w.alloc placeO) w.heap.size := ⟨by simp, by simp, by simp, by simp, by intro o; simp, by simp⟩
theorem NewPlace.keep {w w' : World} {b : Nat} (h : NewPlace w b) (hb : Below w.heap.size w w') : NewPlace w' b :=
  ⟨cell_later hb h.c0, cell_later hb h.c1, cell_later hb h.c2, cell_later hb h.c3, fun o => (hb.frozen (p := ⟨b, o, none⟩) h.lt).trans (h.fz o), Nat.lt_of_lt_of_le h.lt hb.size⟩

abbrev rdT (s : ByteArray) (r : Nat × Nat × Int) : Value := .tuple #[.agg #[.int .i64 r.1, .string (s.extract 0 r.2.1), .int .i64 0, .int .i64 r.2.1], .int .i64 r.2.2]
theorem belA (V : World) (o : Obj) : Below V.heap.size V (V.alloc o) := (Below.refl _ _).alloc (Nat.le_refl _) o
theorem belAA (V : World) (o o' : Obj) : Below V.heap.size V ((V.alloc o).alloc o') := (belA V o).alloc (by simp) o'

/-- the table alone -/
theorem read_way3 (s : ByteArray) (kb : Nat) (V : World) (hs : s.size ≤ 65536) (hk : IsKw V kb) :
    Calls Tryd.prog 47 #[.agg #[.map (some kb), .map none], .string s, .slice (some ⟨V.heap.size, 0, none⟩) 2 2] (V.alloc tabO).drew fun e w' =>
      e = .returned (rdT s (readL (nameRs s.data.toList))) ∧ Below V.heap.size V w' ∧ V.heap.size < w'.heap.size := by
  have hb0 : Below V.heap.size V (V.alloc tabO).drew := (belA V _).drew
  refine (readNames_any s kb V.heap.size _ hs (hk.below hk.lt.1 hk.lt.1 hb0) (by simp) (by simp) (by simp)).mono ?_
  rintro e w' ⟨rfl, hb⟩
  have hz := hb.size
  simp at hz
  exact ⟨rfl, hb0.trans (hb.mono (by simp)), by omega⟩
/-- the place, then the table -/
theorem read_way1 (s : ByteArray) (kb : Nat) (V : World) (hs : s.size ≤ 65536) (hk : IsKw V kb) :
    Calls Tryd.prog 47 #[.agg #[.map (some kb), .map none], .string s, .slice (some ⟨V.heap.size + 1, 0, none⟩) 2 2] ((V.alloc placeO).alloc tabO).drew fun e w' =>
      e = .returned (rdT s (readL (nameRs s.data.toList))) ∧ Below V.heap.size V w' ∧ NewPlace w' V.heap.size ∧ V.heap.size < w'.heap.size := by
  have hb0 : Below V.heap.size V ((V.alloc placeO).alloc tabO).drew := (belAA V _ _).drew
  have hn : NewPlace ((V.alloc placeO).alloc tabO).drew V.heap.size := (NewPlace.made V).keep ((belA _ _).drew)
  refine (readNames_any s kb (V.heap.size + 1) _ hs (hk.below hk.lt.1 hk.lt.1 hb0) ?_ ?_ (by simp)).mono ?_
  · show ((V.alloc placeO).alloc tabO).cell? _ = _
    have : V.heap.size + 1 = (V.alloc placeO).heap.size := by simp
    rw [this]; simp
  · show ((V.alloc placeO).alloc tabO).cell? _ = _
    have : V.heap.size + 1 = (V.alloc placeO).heap.size := by simp
    rw [this]; simp
  rintro e w' ⟨rfl, hb⟩
  have hz := hb.size
  simp at hz
  exact ⟨rfl, hb0.trans (hb.mono (by simp; omega)), hn.keep hb, by omega⟩
/-- the table, then the place -/
theorem read_way2 (s : ByteArray) (kb : Nat) (V : World) (hs : s.size ≤ 65536) (hk : IsKw V kb) :
    Calls Tryd.prog 47 #[.agg #[.map (some kb), .map none], .string s, .slice (some ⟨V.heap.size, 0, none⟩) 2 2] ((V.alloc tabO).alloc placeO).drew fun e w' =>
      e = .returned (rdT s (readL (nameRs s.data.toList))) ∧ Below V.heap.size V w' ∧ NewPlace w' (V.heap.size + 1) ∧ V.heap.size < w'.heap.size := by
  have hb0 : Below V.heap.size V ((V.alloc tabO).alloc placeO).drew := (belAA V _ _).drew
  have hn : NewPlace ((V.alloc tabO).alloc placeO).drew (V.heap.size + 1) := by
    have := NewPlace.made (V.alloc tabO)
    have e : (V.alloc tabO).heap.size = V.heap.size + 1 := by simp
    rw [e] at this
    exact ⟨this.c0, this.c1, this.c2, this.c3, this.fz, this.lt⟩
  refine (readNames_any s kb V.heap.size _ hs (hk.below hk.lt.1 hk.lt.1 hb0) ?_ ?_ (by simp; omega)).mono ?_
  · show ((V.alloc tabO).alloc placeO).cell? _ = _
    rw [World.cell?_alloc_lt _ _ _ (by simp)]; simp
  · show ((V.alloc tabO).alloc placeO).cell? _ = _
    rw [World.cell?_alloc_lt _ _ _ (by simp)]; simp
  rintro e w' ⟨rfl, hb⟩
  have hz := hb.size
  simp at hz
  exact ⟨rfl, hb0.trans (hb.mono (by simp; omega)), hn.keep hb, by omega⟩

theorem extract_beq (s : ByteArray) (n : Nat) (h : n ≤ s.size) : ((s.extract 0 n).toList == s.toList) = decide (n = s.size) := by
  rw [beq_list, toList_eq, Lib.extract_data]
  rw [Bool.eq_iff_iff, decide_eq_true_eq, decide_eq_true_eq]
  have hl : s.data.toList.length = s.size := by simp
  simp only [List.drop_zero, Nat.sub_zero]
  constructor
  · intro h1
    have := congrArg List.length h1
    rw [List.length_take] at this
    omega
  · intro h1
    rw [h1, ← hl, List.take_length]

theorem glob_yes {s : ByteArray} {k n : Nat} (h : ((s.extract 0 n).toList == s.toList) = decide (n = s.size)) (hn : 0 < n) (hk : k = 0) (ht : (s.extract 0 n).toList = s.toList) : decide (0 < n ∧ k = 0 ∧ n = s.size) = true := by
  have h1 : ((s.extract 0 n).toList == s.toList) = true := by rw [ht]; simp
  rw [h1] at h
  have h2 := of_decide_eq_true h.symm
  exact decide_eq_true ⟨hn, hk, h2⟩
theorem glob_no {s : ByteArray} {k n : Nat} (h : ((s.extract 0 n).toList == s.toList) = decide (n = s.size)) (ht : ¬ (s.extract 0 n).toList = s.toList) : decide (0 < n ∧ k = 0 ∧ n = s.size) = false := by
  have h1 : ((s.extract 0 n).toList == s.toList) = false := by simpa using ht
  rw [h1] at h
  have h2 := of_decide_eq_false h.symm
  exact decide_eq_false fun h3 => h2 h3.2.2

set_option maxHeartbeats 8000000 in
set_option maxRecDepth 100000 in
theorem lexIsGlobal_any (s : ByteArray) (w : World) (hs : s.size ≤ 65536) (ht : Tab w) :
    Calls Tryd.prog 22 #[.string s] w fun r w' => r = .returned (.bool (isGlobP s.data.toList)) ∧ Below w.heap.size w w' := by
  have Ht := Lib.hid ht; clear ht
  have hle := nameRs_le s.data.toList
  have hl : s.data.toList.length = s.size := by simp
  rw [hl] at hle
  have r1 := fun kb V hk => read_way1 s kb V hs hk
  have r2 := fun kb V hk => read_way2 s kb V hs hk
  have r3 := fun kb V hk => read_way3 s kb V hs hk
  unfold isGlobP
  rw [hl]
  generalize readL (nameRs s.data.toList) = r at *
  obtain ⟨k, n, e⟩ := r
  have R1 := Lib.hid r1; have R2 := Lib.hid r2; have R3 := Lib.hid r3; clear r1 r2 r3 hl
  simp only at hle ⊢
  have hbeq := extract_beq s n hle
  go_enter Tryd.func22, Tryd.ntmps22
  go_wp2_with fail
  refine (wordSet_any _ kwL _ (by decide +kernel) (ascii_of _ (by decide +kernel)) (by decide +kernel) kwL_nodup (by decide +kernel) Ht.out).mono ?_
  rintro e w1 ⟨rfl, rfl⟩
  generalize hW : ((w.alloc (Obj.cells (List.map (fun l => Value.string { data := l.toArray }) kwL).toArray 9)).alloc (setObjOf kwL)) = W
  have hsz : W.heap.size = w.heap.size + 1 + 1 := by rw [← hW]; simp
  have hbW : Below w.heap.size w W := by rw [← hW]; exact below_two w _ _
  have hkw : W.heap[w.heap.size + 1]? = some (setObjOf kwL) := by rw [← hW]; exact heap_alloc_at' _ _ _ (by simp)
  have HkW := Lib.hid hkw
  have hlk : w.heap.size + 1 < W.heap.size := by omega
  clear hW hkw
  obtain ⟨kb, hkb⟩ : ∃ kb, w.heap.size + 1 = kb := ⟨_, rfl⟩
  rw [hkb] at HkW hlk hsz ⊢
  clear hkb
  have Hsz := Lib.hid hsz; clear hsz
  have HbW := Lib.hid hbW; clear hbW
  go_wp2_with fail
  obtain ⟨V, hV⟩ : ∃ V, W.alloc (Obj.cells #[Value.map (some kb), Value.map none] 69) = V := ⟨_, rfl⟩
  have hk0 : V.cell? ⟨W.heap.size, 0, none⟩ = some (.map (some kb)) := by rw [← hV]; simp
  have hk1 : V.cell? ⟨W.heap.size, 1, none⟩ = some (.map none) := by rw [← hV]; simp
  have hVz : V.heap.size = W.heap.size + 1 := by rw [← hV]; simp
  have hbV : Below w.heap.size w V := by rw [← hV]; exact HbW.out.alloc HbW.out.size _
  have hkV : IsKw V kb := by rw [← hV]; exact ⟨(heap_alloc_lt hlk).trans HkW.out, (heap_alloc_lt hlk).trans HkW.out⟩
  rw [hV]
  clear hV
  have hlV : kb < V.heap.size := hkV.lt.1
  obtain ⟨nb, hnb⟩ : ∃ nb, W.heap.size = nb := ⟨_, rfl⟩
  rw [hnb] at hk0 hk1 hVz ⊢
  have hnV : nb < V.heap.size := by omega
  have HkV := Lib.hid hkV; have HbV := Lib.hid hbV
  clear hkV hbV hnb HbW HkW Hsz hlk
  have HVz := Lib.hid hVz; clear hVz
  clear hle
  have Hbeq := Lib.hid hbeq; clear hbeq
  have hn1 : nb ≠ V.heap.size := by omega
  have hn1' : V.heap.size ≠ nb := by omega
  have hn2 : nb ≠ V.heap.size + 1 := by omega
  have hn2' : V.heap.size + 1 ≠ nb := by omega
  go_region_held3 (fun w' => w'.cell? ⟨nb, 0, none⟩ = some (.map (some kb)) ∧ w'.cell? ⟨nb, 1, none⟩ = some (.map none)) (first | exact ⟨hq0, hq1⟩ | exact ⟨hk0, hk1⟩ | (constructor <;> (simp [World.cell?_alloc_lt, *]; done)) | go_keep)
    (first
      | (go_at_call 48; refine (nameRules_any _).mono ?_; rintro e w2 ⟨rfl, rfl⟩)
      | (go_at_call 47; with_reducible refine (R1.out kb V HkV.out).mono ?_; rintro e w4 ⟨rfl, hbq, hnp, hz4⟩; have c0 := hnp.c0; have c1 := hnp.c1; have c2 := hnp.c2; have c3 := hnp.c3; have f0 := hnp.fz; have hlp := hnp.lt; clear hnp; have hq0 := (hbq.cell (p := ⟨nb, 0, none⟩) hnV).trans hk0; have hq1 := (hbq.cell (p := ⟨nb, 1, none⟩) hnV).trans hk1; have hn3 : nb ≠ w4.heap.size := (by omega); have hn3' : w4.heap.size ≠ nb := (by omega))
      | (go_at_call 47; with_reducible refine (R2.out kb V HkV.out).mono ?_; rintro e w4 ⟨rfl, hbq, hnp, hz4⟩; have c0 := hnp.c0; have c1 := hnp.c1; have c2 := hnp.c2; have c3 := hnp.c3; have f0 := hnp.fz; have hlp := hnp.lt; clear hnp; have hq0 := (hbq.cell (p := ⟨nb, 0, none⟩) hnV).trans hk0; have hq1 := (hbq.cell (p := ⟨nb, 1, none⟩) hnV).trans hk1; have hn3 : nb ≠ w4.heap.size := (by omega); have hn3' : w4.heap.size ≠ nb := (by omega))
      | (go_at_call 47; with_reducible refine (R3.out kb V HkV.out).mono ?_; rintro e w4 ⟨rfl, hbq, hz4⟩; have hq0 := (hbq.cell (p := ⟨nb, 0, none⟩) hnV).trans hk0; have hq1 := (hbq.cell (p := ⟨nb, 1, none⟩) hnV).trans hk1; have hn3 : nb ≠ w4.heap.size := (by omega); have hn3' : w4.heap.size ≠ nb := (by omega)))
  · have hb0 := HbV.out.trans (hbq.mono HbV.out.size)
    have hb : Below w.heap.size w (w4.alloc (Obj.cells #[Value.int IntKind.i64 k, Value.string (s.extract 0 n), Value.int IntKind.i64 0, Value.int IntKind.i64 n] 73)) := hb0.alloc hb0.size _
    obtain ⟨Z, hZ⟩ : ∃ Z, w4.alloc (Obj.cells #[Value.int IntKind.i64 k, Value.string (s.extract 0 n), Value.int IntKind.i64 0, Value.int IntKind.i64 n] 73) = Z := ⟨_, rfl⟩
    have z0 : Z.cell? ⟨w4.heap.size, 0, none⟩ = some (.int .i64 k) := by rw [← hZ]; simp
    have z1 : Z.cell? ⟨w4.heap.size, 1, none⟩ = some (.string (s.extract 0 n)) := by rw [← hZ]; simp
    have z2 : Z.cell? ⟨w4.heap.size, 2, none⟩ = some (.int .i64 0) := by rw [← hZ]; simp
    have z3 : Z.cell? ⟨w4.heap.size, 3, none⟩ = some (.int .i64 n) := by rw [← hZ]; simp
    rw [hZ] at hb ⊢
    clear hZ hq0 hq1 hn3 hn3' hn1 hn1' hn2 hn2' hk0 hk1 hbq hnV hlV R1 R2 R3
    have Hb := Lib.hid hb; clear hb
    by_cases hn : 0 < n
    · have d1 : decide ((0 : Int) < n) = true := decide_eq_true (by omega)
      have d1' : decide (0 < n) = true := decide_eq_true hn
      go_wp2
      · rw [glob_yes Hbeq.out hn (by assumption) (by assumption)]
        go_ret
        exact ⟨rfl, Hb.out⟩
      · rw [glob_no Hbeq.out (by assumption)]
        go_ret
        exact ⟨rfl, Hb.out⟩
      · rw [decide_eq_false (fun h => (by assumption : ¬ k = 0) h.2.1)]
        go_ret
        exact ⟨rfl, Hb.out⟩
    · have d1 : decide ((0 : Int) < n) = false := decide_eq_false (by omega)
      have d1' : decide (0 < n) = false := decide_eq_false hn
      go_wp2
      go_ret
      exact ⟨by rw [decide_eq_false (fun h => hn h.1)]; rfl, Hb.out⟩
  · have hb0 := HbV.out.trans (hbq.mono HbV.out.size)
    have hb : Below w.heap.size w ((((w4.setCell ⟨V.heap.size + 1, 0, none⟩ (Value.int IntKind.i64 k)).setCell ⟨V.heap.size + 1, 1, none⟩ (Value.string (s.extract 0 n))).setCell ⟨V.heap.size + 1, 2, none⟩ (Value.int IntKind.i64 0)).setCell ⟨V.heap.size + 1, 3, none⟩ (Value.int IntKind.i64 n)) := below_pl hb0 (by have := HbV.out.size; omega) _ _ _ _
    obtain ⟨Z, hZ⟩ : ∃ Z, ((((w4.setCell ⟨V.heap.size + 1, 0, none⟩ (Value.int IntKind.i64 k)).setCell ⟨V.heap.size + 1, 1, none⟩ (Value.string (s.extract 0 n))).setCell ⟨V.heap.size + 1, 2, none⟩ (Value.int IntKind.i64 0)).setCell ⟨V.heap.size + 1, 3, none⟩ (Value.int IntKind.i64 n)) = Z := ⟨_, rfl⟩
    have z0 : Z.cell? ⟨V.heap.size + 1, 0, none⟩ = some (.int .i64 k) := by rw [← hZ]; simp [go_sem, c0, c1, c2, c3]
    have z1 : Z.cell? ⟨V.heap.size + 1, 1, none⟩ = some (.string (s.extract 0 n)) := by rw [← hZ]; simp [go_sem, c0, c1, c2, c3]
    have z2 : Z.cell? ⟨V.heap.size + 1, 2, none⟩ = some (.int .i64 0) := by rw [← hZ]; simp [go_sem, c0, c1, c2, c3]
    have z3 : Z.cell? ⟨V.heap.size + 1, 3, none⟩ = some (.int .i64 n) := by rw [← hZ]; simp [go_sem, c0, c1, c2, c3]
    clear c0 c1 c2 c3 f0 hlp
    rw [hZ] at hb ⊢
    clear hZ hq0 hq1 hn3 hn3' hn1 hn1' hn2 hn2' hk0 hk1 hbq hnV hlV R1 R2 R3
    have Hb := Lib.hid hb; clear hb
    by_cases hn : 0 < n
    · have d1 : decide ((0 : Int) < n) = true := decide_eq_true (by omega)
      have d1' : decide (0 < n) = true := decide_eq_true hn
      go_wp2
      · rw [glob_yes Hbeq.out hn (by assumption) (by assumption)]
        go_ret
        exact ⟨rfl, Hb.out⟩
      · rw [glob_no Hbeq.out (by assumption)]
        go_ret
        exact ⟨rfl, Hb.out⟩
      · rw [decide_eq_false (fun h => (by assumption : ¬ k = 0) h.2.1)]
        go_ret
        exact ⟨rfl, Hb.out⟩
    · have d1 : decide ((0 : Int) < n) = false := decide_eq_false (by omega)
      have d1' : decide (0 < n) = false := decide_eq_false hn
      go_wp2
      go_ret
      exact ⟨by rw [decide_eq_false (fun h => hn h.1)]; rfl, Hb.out⟩
  · have hb0 := HbV.out.trans (hbq.mono HbV.out.size)
    have hb : Below w.heap.size w ((((w4.setCell ⟨V.heap.size, 0, none⟩ (Value.int IntKind.i64 k)).setCell ⟨V.heap.size, 1, none⟩ (Value.string (s.extract 0 n))).setCell ⟨V.heap.size, 2, none⟩ (Value.int IntKind.i64 0)).setCell ⟨V.heap.size, 3, none⟩ (Value.int IntKind.i64 n)) := below_pl hb0 (by have := HbV.out.size; omega) _ _ _ _
    obtain ⟨Z, hZ⟩ : ∃ Z, ((((w4.setCell ⟨V.heap.size, 0, none⟩ (Value.int IntKind.i64 k)).setCell ⟨V.heap.size, 1, none⟩ (Value.string (s.extract 0 n))).setCell ⟨V.heap.size, 2, none⟩ (Value.int IntKind.i64 0)).setCell ⟨V.heap.size, 3, none⟩ (Value.int IntKind.i64 n)) = Z := ⟨_, rfl⟩
    have z0 : Z.cell? ⟨V.heap.size, 0, none⟩ = some (.int .i64 k) := by rw [← hZ]; simp [go_sem, c0, c1, c2, c3]
    have z1 : Z.cell? ⟨V.heap.size, 1, none⟩ = some (.string (s.extract 0 n)) := by rw [← hZ]; simp [go_sem, c0, c1, c2, c3]
    have z2 : Z.cell? ⟨V.heap.size, 2, none⟩ = some (.int .i64 0) := by rw [← hZ]; simp [go_sem, c0, c1, c2, c3]
    have z3 : Z.cell? ⟨V.heap.size, 3, none⟩ = some (.int .i64 n) := by rw [← hZ]; simp [go_sem, c0, c1, c2, c3]
    clear c0 c1 c2 c3 f0 hlp
    rw [hZ] at hb ⊢
    clear hZ hq0 hq1 hn3 hn3' hn1 hn1' hn2 hn2' hk0 hk1 hbq hnV hlV R1 R2 R3
    have Hb := Lib.hid hb; clear hb
    by_cases hn : 0 < n
    · have d1 : decide ((0 : Int) < n) = true := decide_eq_true (by omega)
      have d1' : decide (0 < n) = true := decide_eq_true hn
      go_wp2
      · rw [glob_yes Hbeq.out hn (by assumption) (by assumption)]
        go_ret
        exact ⟨rfl, Hb.out⟩
      · rw [glob_no Hbeq.out (by assumption)]
        go_ret
        exact ⟨rfl, Hb.out⟩
      · rw [decide_eq_false (fun h => (by assumption : ¬ k = 0) h.2.1)]
        go_ret
        exact ⟨rfl, Hb.out⟩
    · have d1 : decide ((0 : Int) < n) = false := decide_eq_false (by omega)
      have d1' : decide (0 < n) = false := decide_eq_false hn
      go_wp2
      go_ret
      exact ⟨by rw [decide_eq_false (fun h => hn h.1)]; rfl, Hb.out⟩
end Go.Proofs.YtokdoklkaojheaaDoor

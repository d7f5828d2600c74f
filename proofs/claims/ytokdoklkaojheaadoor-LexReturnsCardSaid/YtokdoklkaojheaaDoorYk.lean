import Derived.Test.YtokdoklkaojheaaDoorYj
namespace Go.Proofs.YtokdoklkaojheaaDoor
open Go.RowKit

theorem max_keep {w w' : World} {m : Int} (hm : w.cell? ⟨2, 0, none⟩ = some (.int .i64 m)) (hb : Below w.heap.size w w') : w'.cell? ⟨2, 0, none⟩ = some (.int .i64 m) := cell_later hb hm

theorem lexIsName_any (s : ByteArray) (m : Int) (w : World) (hs : s.size ≤ 65536) (ht : Tab w) (hm : w.cell? ⟨2, 0, none⟩ = some (.int .i64 m)) :
    Calls Tryd.prog 20 #[.string s] w fun r w' => r = .returned (.bool (nameR s.data.toList)) ∧ Below w.heap.size w w' := by
  have c1 := lexIsGlobal_any s w hs ht
  have c2 := fun w hm => Tryd.strings_Contains s ⟨#[58, 58]⟩ m w (by omega) hm
  rw [show Lib.contains s.data.toList (⟨#[58, 58]⟩ : ByteArray).data.toList = qualfd s.data.toList from rfl] at c2
  rw [← name_same]
  have Hm := Lib.hid hm; clear hm ht
  generalize isGlobP s.data.toList = a at *
  generalize qualfd s.data.toList = q at *
  have C1 := Lib.hid c1; have C2 := Lib.hid c2; clear c1 c2
  cases a
  · go_enter Tryd.func20, Tryd.ntmps20
    go_wp2_with fail
    refine C1.out.mono ?_; rintro e w1 ⟨rfl, hb⟩
    have Hb := Lib.hid hb; clear hb
    go_wp2
    go_ret
    exact ⟨by simp, Hb.out⟩
  · cases q
    all_goals
      go_enter Tryd.func20, Tryd.ntmps20
      go_wp2_with fail
      refine C1.out.mono ?_; rintro e w1 ⟨rfl, hb⟩
      have Hb := Lib.hid hb; clear hb
      go_wp2_with fail
      refine (C2.out _ (max_keep Hm.out Hb.out)).mono ?_; rintro e w2 ⟨rfl, rfl⟩
      go_wp2
      go_ret
      exact ⟨by simp, Hb.out⟩

theorem ba_list (A : ByteArray) (x : List UInt8) (h : A.data.toList = x) : (⟨x.toArray⟩ : ByteArray) = A := by
  subst h; cases A; simp
theorem cut_sp (s : ByteArray) : (0 ≤ ccI s → (⟨(Lib.cut s.data.toList [58, 58]).1.toArray⟩ : ByteArray) = spA s ∧ (⟨(Lib.cut s.data.toList [58, 58]).2.1.toArray⟩ : ByteArray) = spB s ∧ (Lib.cut s.data.toList [58, 58]).2.2 = true) ∧
    (¬ 0 ≤ ccI s → (Lib.cut s.data.toList [58, 58]).2.2 = false ∧ spA s = ⟨#[]⟩ ∧ spB s = s) := by
  constructor
  · intro h
    have hc : Lib.cut s.data.toList [58, 58] = (splitA s.data.toList, splitB s.data.toList, true) := by
      unfold Lib.cut splitA splitB; unfold ccI at h; rw [if_pos h, if_pos h, if_pos h]; rfl
    rw [hc]
    exact ⟨ba_list _ _ (spA_list s), ba_list _ _ (spB_list s), rfl⟩
  · intro h
    refine ⟨?_, by unfold spA; rw [if_neg h], by unfold spB; rw [if_neg h]⟩
    unfold Lib.cut; unfold ccI at h; rw [if_neg h]

theorem lexSplit_any (s : ByteArray) (m : Int) (w : World) (hs : s.size ≤ 65536) (ht : Tab w) (hm : w.cell? ⟨2, 0, none⟩ = some (.int .i64 m)) :
    Calls Tryd.prog 19 #[.string s] w fun r w' => r = .returned (spR s) ∧ Below w.heap.size w w' := by
  have c1 := lexIsGlobal_any s w hs ht
  have c2 := fun w hm => Tryd.strings_Cut s ⟨#[58, 58]⟩ m w (by omega) hm
  rw [show (⟨#[58, 58]⟩ : ByteArray).data.toList = [58, 58] from rfl] at c2
  rw [glob_same] at c1
  obtain ⟨h1, h2⟩ := cut_sp s
  unfold spR spM spN spE
  have Hm := Lib.hid hm; clear hm ht
  generalize isGlobR s.data.toList = a at *
  have C1 := Lib.hid c1; clear c1
  cases a
  · clear h1 h2 c2
    go_enter Tryd.func19, Tryd.ntmps19
    go_wp2_with fail
    refine C1.out.mono ?_; rintro e w1 ⟨rfl, hb⟩
    have Hb := Lib.hid hb; clear hb
    go_wp2
    go_ret3
    exact ⟨by simp, Hb.out⟩
  · by_cases hi : 0 ≤ ccI s
    · obtain ⟨e1, e2, e3⟩ := h1 hi
      rw [e1, e2, e3] at c2
      have C2 := Lib.hid c2; clear h1 h2 c2 e1 e2 e3 hi
      generalize spA s = A at *
      generalize spB s = B at *
      go_enter Tryd.func19, Tryd.ntmps19
      go_wp2_with fail
      refine C1.out.mono ?_; rintro e w1 ⟨rfl, hb⟩
      have Hb := Lib.hid hb; clear hb
      go_wp2_with fail
      refine (C2.out _ (max_keep Hm.out Hb.out)).mono ?_; rintro e w2 ⟨rfl, n, rfl⟩
      go_wp2
      go_ret3
      exact ⟨by simp, below_drewN Hb.out _⟩
    · obtain ⟨e3, e1, e2⟩ := h2 hi
      rw [e3] at c2
      rw [e1, e2]
      generalize (Lib.cut s.data.toList [58, 58]).1 = x at *
      generalize (Lib.cut s.data.toList [58, 58]).2.1 = y at *
      have C2 := Lib.hid c2; clear h1 h2 c2 e1 e2 e3 hi
      go_enter Tryd.func19, Tryd.ntmps19
      go_wp2_with fail
      refine C1.out.mono ?_; rintro e w1 ⟨rfl, hb⟩
      have Hb := Lib.hid hb; clear hb
      go_wp2_with fail
      refine (C2.out _ (max_keep Hm.out Hb.out)).mono ?_; rintro e w2 ⟨rfl, n, rfl⟩
      go_wp2
      go_ret3
      exact ⟨by simp, below_drewN Hb.out _⟩
end Go.Proofs.YtokdoklkaojheaaDoor

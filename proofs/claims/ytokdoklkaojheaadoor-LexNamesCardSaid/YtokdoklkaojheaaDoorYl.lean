import Derived.Test.YtokdoklkaojheaaDoorYk
import Derived.Test.YtokdoklkaojheaaDoorWy
namespace Go.Proofs.YtokdoklkaojheaaDoor
open Go.RowKit

/-- all that the law asks of one string -/
structure OneName (S : ByteArray) (m : Int) : Prop where
  c18 : ∀ w, Calls Tryd.prog 18 #[.string S] w fun r w' => r = .returned (.tuple #[.string (spM S), .string (spN S), .int .i64 (spE S)]) ∧ Below w.heap.size w w'
  c19 : ∀ w, Tab w → w.cell? ⟨2, 0, none⟩ = some (.int .i64 m) → Calls Tryd.prog 19 #[.string S] w fun r w' => r = .returned (.tuple #[.string (spM S), .string (spN S), .int .i64 (spE S)]) ∧ Below w.heap.size w w'
  c20 : ∀ w, Tab w → w.cell? ⟨2, 0, none⟩ = some (.int .i64 m) → Calls Tryd.prog 20 #[.string S] w fun r w' => r = .returned (.bool (nameR S.data.toList)) ∧ Below w.heap.size w w'
  c21 : ∀ w, Calls Tryd.prog 21 #[.string S] w fun r w' => r = .returned (.bool (nameR S.data.toList)) ∧ Below w.heap.size w w'
  c22 : ∀ w, Tab w → Calls Tryd.prog 22 #[.string S] w fun r w' => r = .returned (.bool (isGlobR S.data.toList)) ∧ Below w.heap.size w w'
  c23 : ∀ w, Calls Tryd.prog 23 #[.string S] w fun r w' => r = .returned (.bool (isGlobR S.data.toList)) ∧ Below w.heap.size w w'

theorem oneName (S : ByteArray) (m : Int) (hs : S.size ≤ 65536) : OneName S m where
  c18 := fun w => refSplit3_any S w hs
  c19 := fun w ht hm => lexSplit_any S m w hs ht hm
  c20 := fun w ht hm => lexIsName_any S m w hs ht hm
  c21 := fun w => refIsName_any S w hs
  c22 := fun w ht => by rw [← glob_same]; exact lexIsGlobal_any S w hs ht
  c23 := fun w => refIsGlobal_any S w hs

theorem index36_0 (a b c : ByteArray) (w : World) : (Instr.index 36 (.agg #[.string a, .string b, .string c]) (.int .i64 0)).run Tryd.prog w = .ok (.string a) w := by kernel_rfl
theorem index36_1 (a b c : ByteArray) (w : World) : (Instr.index 36 (.agg #[.string a, .string b, .string c]) (.int .i64 1)).run Tryd.prog w = .ok (.string b) w := by kernel_rfl
theorem index36_2 (a b c : ByteArray) (w : World) : (Instr.index 36 (.agg #[.string a, .string b, .string c]) (.int .i64 2)).run Tryd.prog w = .ok (.string c) w := by kernel_rfl

set_option maxHeartbeats 2000000 in
set_option maxRecDepth 100000 in
theorem law_names (a b : ByteArray) (m : Int) (w : World) (ha : a.size ≤ Go.maxLen) (hb : b.size ≤ Go.maxLen) (ht : Tab w) (hm : w.cell? ⟨2, 0, none⟩ = some (.int .i64 m)) :
    Calls Tryd.prog 4 #[.string a, .string b] w fun e w' => e = .returned (.bool true) ∧ Below w.heap.size w w' := by
  unfold Go.maxLen at ha hb
  have Ht := Lib.hid ht; have Hm := Lib.hid hm
  clear ht hm
  by_cases h1 : 200 < a.size
  · have d1 : decide ((200 : Int) < a.size) = true := decide_eq_true (by omega)
    have d1' : decide (200 < a.size) = true := decide_eq_true h1
    clear h1
    go_enter Tryd.func4, Tryd.ntmps4
    go_wp2_with fail
    refine (awake_any m _ Ht.out Hm.out).mono ?_; rintro e w1 ⟨rfl, hb1⟩
    have Hb1 := Lib.hid hb1; clear hb1
    go_wp2
    go_ret
    exact ⟨rfl, Hb1.out⟩
  · have d1 : decide ((200 : Int) < a.size) = false := decide_eq_false (by omega)
    have d1' : decide (200 < a.size) = false := decide_eq_false h1
    by_cases h2 : 200 < b.size
    · have d2 : decide ((200 : Int) < b.size) = true := decide_eq_true (by omega)
      have d2' : decide (200 < b.size) = true := decide_eq_true h2
      clear h1 h2
      go_enter Tryd.func4, Tryd.ntmps4
      go_wp2_with fail
      refine (awake_any m _ Ht.out Hm.out).mono ?_; rintro e w1 ⟨rfl, hb1⟩
      have Hb1 := Lib.hid hb1; clear hb1
      go_wp2
      go_ret
      exact ⟨rfl, Hb1.out⟩
    · have d2 : decide ((200 : Int) < b.size) = false := decide_eq_false (by omega)
      have d2' : decide (200 < b.size) = false := decide_eq_false h2
      have oa := oneName a m (by omega)
      have ob := oneName b m (by omega)
      have oc := oneName (a ++ ⟨#[58, 58]⟩ ++ b) m (by have : (⟨#[58, 58]⟩ : ByteArray).size = 2 := rfl
                                                       simp only [ByteArray.size_append, this]; omega)
      have Oa := Lib.hid oa; have Ob := Lib.hid ob; have Oc := Lib.hid oc
      clear oa ob oc
      have hz1 : a.size ≤ 200 := by omega
      have hz2 : b.size ≤ 200 := by omega
      have hx0 := fun w => index36_0 a b (a ++ ⟨#[58, 58]⟩ ++ b) w
      have hx1 := fun w => index36_1 a b (a ++ ⟨#[58, 58]⟩ ++ b) w
      have hx2 := fun w => index36_2 a b (a ++ ⟨#[58, 58]⟩ ++ b) w
      clear ha hb h1 h2
      go_enter Tryd.func4, Tryd.ntmps4
      go_wp2
      go_loopw [29] (fun i wr => ∃ k : Nat, k ≤ 3 ∧ i = .int .i64 k ∧ Below w.heap.size w wr) (fun i _ => 3 - (intOf i).toNat)
      case atStart => exact ⟨0, by omega, rfl, Below.refl _ _⟩
      case round =>
        obtain ⟨k, hk, rfl, hbr⟩ := hrel
        by_cases hk3 : k = 3
        · subst hk3
          have htr := Ht.out.below hbr
          have hmr := max_keep Hm.out hbr
          have Htr := Lib.hid htr; have Hmr := Lib.hid hmr; have Hbr := Lib.hid hbr
          clear htr hmr hbr
          go_wp2_with fail
          refine (awake_any m _ Htr.out Hmr.out).mono ?_; rintro e w1 ⟨rfl, hb1⟩
          have Hb1 := Lib.hid hb1; clear hb1
          go_wp2
          go_ret
          exact ⟨rfl, Hbr.out.trans (Hb1.out.mono Hbr.out.size)⟩
        · have hkc : k = 0 ∨ k = 1 ∨ k = 2 := by omega
          rcases hkc with rfl | rfl | rfl
          · have htr := Ht.out.below hbr
            have hmr := max_keep Hm.out hbr
            have Hbr := Lib.hid hbr; clear hbr htr hmr
            go_wp2_with fail
            refine (Oa.out.c18 _).mono ?_; rintro e w1 ⟨rfl, hb⟩
            have H1 := Lib.hid (Hbr.out.trans (hb.mono Hbr.out.size)); clear hb
            go_wp2_with fail
            refine (Oa.out.c19 _ (Ht.out.below H1.out) (max_keep Hm.out H1.out)).mono ?_; rintro e w2 ⟨rfl, hb⟩
            have H2 := Lib.hid (H1.out.trans (hb.mono H1.out.size)); clear hb
            go_wp2_with fail
            refine (Oa.out.c20 _ (Ht.out.below H2.out) (max_keep Hm.out H2.out)).mono ?_; rintro e w3 ⟨rfl, hb⟩
            have H3 := Lib.hid (H2.out.trans (hb.mono H2.out.size)); clear hb
            go_wp2_with fail
            refine (Oa.out.c21 _).mono ?_; rintro e w4 ⟨rfl, hb⟩
            have H4 := Lib.hid (H3.out.trans (hb.mono H3.out.size)); clear hb
            go_wp2_with fail
            refine (Oa.out.c22 _ (Ht.out.below H4.out)).mono ?_; rintro e w5 ⟨rfl, hb⟩
            have H5 := Lib.hid (H4.out.trans (hb.mono H4.out.size)); clear hb
            go_wp2_with fail
            refine (Oa.out.c23 _).mono ?_; rintro e w6 ⟨rfl, hb⟩
            have H6 := Lib.hid (H5.out.trans (hb.mono H5.out.size)); clear hb
            go_wp2
            go_roundw
            case rel => exact ⟨1, by omega, by go_num, H6.out⟩
            case measure => simp [intOf]
          · have htr := Ht.out.below hbr
            have hmr := max_keep Hm.out hbr
            have Hbr := Lib.hid hbr; clear hbr htr hmr
            go_wp2_with fail
            refine (Ob.out.c18 _).mono ?_; rintro e w1 ⟨rfl, hb⟩
            have H1 := Lib.hid (Hbr.out.trans (hb.mono Hbr.out.size)); clear hb
            go_wp2_with fail
            refine (Ob.out.c19 _ (Ht.out.below H1.out) (max_keep Hm.out H1.out)).mono ?_; rintro e w2 ⟨rfl, hb⟩
            have H2 := Lib.hid (H1.out.trans (hb.mono H1.out.size)); clear hb
            go_wp2_with fail
            refine (Ob.out.c20 _ (Ht.out.below H2.out) (max_keep Hm.out H2.out)).mono ?_; rintro e w3 ⟨rfl, hb⟩
            have H3 := Lib.hid (H2.out.trans (hb.mono H2.out.size)); clear hb
            go_wp2_with fail
            refine (Ob.out.c21 _).mono ?_; rintro e w4 ⟨rfl, hb⟩
            have H4 := Lib.hid (H3.out.trans (hb.mono H3.out.size)); clear hb
            go_wp2_with fail
            refine (Ob.out.c22 _ (Ht.out.below H4.out)).mono ?_; rintro e w5 ⟨rfl, hb⟩
            have H5 := Lib.hid (H4.out.trans (hb.mono H4.out.size)); clear hb
            go_wp2_with fail
            refine (Ob.out.c23 _).mono ?_; rintro e w6 ⟨rfl, hb⟩
            have H6 := Lib.hid (H5.out.trans (hb.mono H5.out.size)); clear hb
            go_wp2
            go_roundw
            case rel => exact ⟨2, by omega, by go_num, H6.out⟩
            case measure => simp [intOf]
          · have htr := Ht.out.below hbr
            have hmr := max_keep Hm.out hbr
            have Hbr := Lib.hid hbr; clear hbr htr hmr
            go_wp2_with fail
            refine (Oc.out.c18 _).mono ?_; rintro e w1 ⟨rfl, hb⟩
            have H1 := Lib.hid (Hbr.out.trans (hb.mono Hbr.out.size)); clear hb
            go_wp2_with fail
            refine (Oc.out.c19 _ (Ht.out.below H1.out) (max_keep Hm.out H1.out)).mono ?_; rintro e w2 ⟨rfl, hb⟩
            have H2 := Lib.hid (H1.out.trans (hb.mono H1.out.size)); clear hb
            go_wp2_with fail
            refine (Oc.out.c20 _ (Ht.out.below H2.out) (max_keep Hm.out H2.out)).mono ?_; rintro e w3 ⟨rfl, hb⟩
            have H3 := Lib.hid (H2.out.trans (hb.mono H2.out.size)); clear hb
            go_wp2_with fail
            refine (Oc.out.c21 _).mono ?_; rintro e w4 ⟨rfl, hb⟩
            have H4 := Lib.hid (H3.out.trans (hb.mono H3.out.size)); clear hb
            go_wp2_with fail
            refine (Oc.out.c22 _ (Ht.out.below H4.out)).mono ?_; rintro e w5 ⟨rfl, hb⟩
            have H5 := Lib.hid (H4.out.trans (hb.mono H4.out.size)); clear hb
            go_wp2_with fail
            refine (Oc.out.c23 _).mono ?_; rintro e w6 ⟨rfl, hb⟩
            have H6 := Lib.hid (H5.out.trans (hb.mono H5.out.size)); clear hb
            go_wp2
            go_roundw
            case rel => exact ⟨3, by omega, by go_num, H6.out⟩
            case measure => simp [intOf]
end Go.Proofs.YtokdoklkaojheaaDoor

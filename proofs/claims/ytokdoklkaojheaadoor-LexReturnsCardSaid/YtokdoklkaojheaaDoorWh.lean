import Derived.Test.YtokdoklkaojheaaDoorWg
import Derived.Deep.LoopGhost
namespace Go.Proofs.YtokdoklkaojheaaDoor
open Go.RowKit

theorem byte_at (s : ByteArray) (k : Nat) (h : k < s.data.toList.length) : s.data.toList[k] = s.get! k := by
  rw [get!_at s k (by simpa using h)]

set_option maxHeartbeats 1000000 in
set_option maxRecDepth 100000 in
theorem prefix_any (f : Nat) (P : Int → Bool) (ef : ∀ args wx, (callFunc f args).run Tryd.prog wx = .ok (.enter f args) wx)
    (cf : ∀ r wx, Calls Tryd.prog f #[.int .i32 r] wx fun e w' => e = .returned (.bool (P r)) ∧ wx = w') (hP : ∀ r, 128 ≤ r → P r = P 128)
    (s : ByteArray) (w : World) (hs : s.size ≤ 9223372036854775807) :
    Calls Tryd.prog 99 #[.string s, .func (.func f) #[] #[]] w fun e w' => e = .returned (.int .i64 (tw (fun c => P c.toNat) s.data.toList)) ∧ ∃ p, w' = w.alloc (.stringIter s p) := by
  have Cf := Lib.hid cf; clear cf
  have HP := Lib.hid hP; clear hP
  go_enter Tryd.func99, Tryd.ntmps99
  go_wp2
  go_loopg [] s.size (fun g wx => ∃ pos : Nat, wx = w.iter s pos ∧ pos ≤ s.size ∧ s.size ≤ pos + g ∧ ∀ k, k < pos → P (s.get! k).toNat = true)
  case atStart => exact ⟨0, rfl, by omega, by omega, fun k hk => by omega⟩
  case round =>
    obtain ⟨pos, rfl, hle, hfu, hall⟩ := hrel
    have Hall := Lib.hid hall; clear hall
    by_cases hp : pos < s.size
    · obtain ⟨g, rfl⟩ : ∃ g, gk = g + 1 := ⟨gk - 1, by omega⟩
      have hnx : ∀ ty, (Instr.next (.pointer (some ⟨w.heap.size, 0, none⟩)) true ty).run Tryd.prog (w.iter s pos) = _ := fun ty => run_next_any w s pos ty hp
      have hr1 := decode_le s pos
      have hpos : 1 ≤ (Utf8.decode s pos).2 ∧ pos + (Utf8.decode s pos).2 ≤ s.size ∧ ∀ k, k < (Utf8.decode s pos).2 → P (s.get! (pos + k)).toNat = P (Utf8.decode s pos).1 := by
        have hg := get_at s pos hp
        rw [Nat.add_zero] at hg
        by_cases ha : (s[pos]'hp).toNat < 128
        · rw [decode_ascii s pos hp ha]
          exact ⟨by simp, by simp; omega, fun k hk => by simp at hk; subst hk; rw [Nat.add_zero, hg]⟩
        · have h1 := decode_high s pos hp (by omega)
          have h2 := decode_span s pos hp (by omega)
          exact ⟨h1.2, h2.1, fun k hk => by rw [HP.out _ (by have := h2.2 k hk; omega), HP.out (Utf8.decode s pos).1 (by omega)]⟩
      obtain ⟨hw1, hw2, hw3⟩ := hpos
      obtain ⟨R, hR⟩ : ∃ R, (Utf8.decode s pos).1 = R := ⟨_, rfl⟩
      obtain ⟨K, hK⟩ : ∃ K, (Utf8.decode s pos).2 = K := ⟨_, rfl⟩
      rw [hR, hK] at hnx hw3
      rw [hR] at hr1
      rw [hK] at hw1 hw2
      have Hw3 := Lib.hid hw3; clear hw3 hR hK
      have c := Cf.out (R : Int) (w.iter s (pos + K))
      cases hb : P (R : Int) with
      | true =>
        rw [hb] at c
        have Hb := Lib.hid hb; clear hb
        have C := Lib.hid c; clear c
        go_wp2_with (go_at_fn f; refine C.out.mono ?_; rintro e W' ⟨rfl, rfl⟩)
        go_roundg g
        case measure => omega
        case rel => exact ⟨pos + K, rfl, by omega, by omega, fun k hk => by
          by_cases h : k < pos
          · exact Hall.out k h
          · have := Hw3.out (k - pos) (by omega)
            rw [show pos + (k - pos) = k by omega] at this
            rw [this]; exact Hb.out⟩
      | false =>
        rw [hb] at c
        have Hb := Lib.hid hb; clear hb
        have C := Lib.hid c; clear c
        go_wp2_with (go_at_fn f; refine C.out.mono ?_; rintro e W' ⟨rfl, rfl⟩)
        go_ret
        refine ⟨ret_int ?_, pos + K, rfl⟩
        rw [tw_stop (fun c => P c.toNat) s.data.toList pos (by simpa using hp) (fun i hi => by rw [byte_at]; exact Hall.out i hi)
          (by rw [byte_at]; have := Hw3.out 0 (by omega); rw [Nat.add_zero] at this; rw [this]; exact Hb.out)]
    · have hnx : ∀ ty, (Instr.next (.pointer (some ⟨w.heap.size, 0, none⟩)) true ty).run Tryd.prog (w.iter s pos) = _ := fun ty => run_next_end w s pos ty hp
      go_wp2
      go_ret
      refine ⟨ret_int ?_, pos, rfl⟩
      rw [tw_all (fun c => P c.toNat) s.data.toList (fun i hi => by rw [byte_at]; exact Hall.out i (by simp at hi; omega))]
      simp
end Go.Proofs.YtokdoklkaojheaaDoor

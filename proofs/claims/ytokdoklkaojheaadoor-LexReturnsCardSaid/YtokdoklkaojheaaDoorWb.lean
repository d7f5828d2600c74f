import Derived.Test.YtokdoklkaojheaaDoorWa
namespace Go.Proofs.YtokdoklkaojheaaDoor
open Go.RowKit

theorem ret_int {k : IntKind} {a b : Int} (h : a = b) : Ending.returned (.int k a) = .returned (.int k b) := by rw [h]

def firstErr : List Int → Int
  | [] => 0
  | x :: xs => if x = 0 then firstErr xs else x

theorem getD_at {α : Type} (l : List α) (k : Nat) (d : α) (h : k < l.length) : l.getD k d = l[k] := by simp [List.getD, h]
theorem drop_eq_cons (zs : List Int) (k : Nat) (h : k < zs.length) : zs.drop k = zs[k] :: zs.drop (k + 1) := by
  rw [List.drop_eq_getElem_cons h]

theorem firstErr_step0 (zs : List Int) (k : Nat) (h : k < zs.length) (e : zs.getD k 0 = 0) : firstErr (zs.drop k) = firstErr (zs.drop (k + 1)) := by
  rw [drop_eq_cons zs k h]; rw [getD_at _ _ _ h] at e; simp [firstErr, e]
theorem firstErr_stop (zs : List Int) (k : Nat) (h : k < zs.length) (e : zs.getD k 0 ≠ 0) : firstErr (zs.drop k) = zs.getD k 0 := by
  rw [drop_eq_cons zs k h]; rw [getD_at _ _ _ h] at e ⊢; simp [firstErr, e]

set_option maxHeartbeats 400000 in
theorem firstError_any (b : Nat) (zs : List Int) (n c : Nat) (w : World) (hn : n = zs.length) (hm : n ≤ 1000000)
    (hc : ∀ i, i < n → w.cell? ⟨b, i, none⟩ = some (.int .i64 (zs.getD i 0))) :
    Calls Tryd.prog 52 #[.slice (some ⟨b, 0, none⟩) n c] w fun r w' => r = .returned (.int .i64 (firstErr zs)) ∧ w = w' := by
  have Hn := Lib.hid hn; clear hn
  have Hc := Lib.hid hc; clear hc
  go_enter Tryd.func52, Tryd.ntmps52
  go_wp2
  go_loop [7] (fun i => ∃ k : Nat, k ≤ n ∧ i = .int .i64 k ∧ firstErr zs = firstErr (zs.drop k)) (fun i => n - (intOf i).toNat)
  case atStart => exact ⟨0, Nat.zero_le _, rfl, rfl⟩
  case round =>
    obtain ⟨k, hk, rfl, hr⟩ := hrel
    have Hr := Lib.hid hr; clear hr
    by_cases hlt : k < n
    · have hcell := Hc.out k hlt
      by_cases hz : zs.getD k 0 = 0
      · have Hz := Lib.hid hz
        rw [hz] at hcell
        clear hz
        go_wp2
        go_round
        case rel => exact ⟨k + 1, by omega, by go_num, by rw [Hr.out]; exact firstErr_step0 zs k (by have := Hn.out; omega) Hz.out⟩
        case measure => simp [intOf]; omega
      · have Hz := Lib.hid hz
        have hb : (zs.getD k 0 != 0) = true := by simpa using hz
        clear hz
        generalize hx : zs.getD k 0 = x at *
        have Hx := Lib.hid hx; clear hx
        go_wp2
        go_ret
        exact ⟨ret_int (by rw [Hr.out, firstErr_stop zs k (by have := Hn.out; omega) (by rw [Hx.out]; exact Hz.out), Hx.out]), rfl⟩
    · go_wp2
      go_ret
      exact ⟨ret_int (by rw [Hr.out, show k = zs.length from by have := Hn.out; omega, List.drop_length]; rfl), rfl⟩

set_option maxHeartbeats 400000 in
theorem first_any (b : Nat) (zs : List Int) (n c : Nat) (w : World) (hn : n = zs.length) (hm : n ≤ 1000000)
    (hc : ∀ i, i < n → w.cell? ⟨b, i, none⟩ = some (.int .i64 (zs.getD i 0))) :
    Calls Tryd.prog 50 #[.slice (some ⟨b, 0, none⟩) n c] w fun r w' => r = .returned (.int .i64 (firstErr zs)) ∧ w = w' := by
  have Hn := Lib.hid hn; clear hn
  have Hc := Lib.hid hc; clear hc
  go_enter Tryd.func50, Tryd.ntmps50
  go_wp2
  go_loop [3] (fun i => ∃ k : Nat, k ≤ n ∧ i = .int .i64 k ∧ firstErr zs = firstErr (zs.drop k)) (fun i => n - (intOf i).toNat)
  case atStart => exact ⟨0, Nat.zero_le _, rfl, rfl⟩
  case round =>
    obtain ⟨k, hk, rfl, hr⟩ := hrel
    have Hr := Lib.hid hr; clear hr
    by_cases hlt : k < n
    · have hcell := Hc.out k hlt
      by_cases hz : zs.getD k 0 = 0
      · have Hz := Lib.hid hz
        rw [hz] at hcell
        clear hz
        go_wp2
        go_round
        case rel => exact ⟨k + 1, by omega, by go_num, by rw [Hr.out]; exact firstErr_step0 zs k (by have := Hn.out; omega) Hz.out⟩
        case measure => simp [intOf]; omega
      · have Hz := Lib.hid hz
        have hb : (zs.getD k 0 != 0) = true := by simpa using hz
        clear hz
        generalize hx : zs.getD k 0 = x at *
        have Hx := Lib.hid hx; clear hx
        go_wp2
        go_ret
        exact ⟨ret_int (by rw [Hr.out, firstErr_stop zs k (by have := Hn.out; omega) (by rw [Hx.out]; exact Hz.out), Hx.out]), rfl⟩
    · go_wp2
      go_ret
      exact ⟨ret_int (by rw [Hr.out, show k = zs.length from by have := Hn.out; omega, List.drop_length]; rfl), rfl⟩

theorem two_cells (w : World) (x y : Int) (t : TypeId) : ∀ i, i < 2 → (w.alloc (.cells #[.int .i64 x, .int .i64 y] t)).cell? ⟨w.heap.size, i, none⟩ = some (.int .i64 ([x, y].getD i 0)) := by
  intro i hi
  have : i = 0 ∨ i = 1 := by omega
  rcases this with rfl | rfl <;> simp
theorem firstError2 (x y : Int) (t : TypeId) (w : World) :
    Calls Tryd.prog 52 #[.slice (some ⟨w.heap.size, 0, none⟩) 2 2] (w.alloc (.cells #[.int .i64 x, .int .i64 y] t)) fun r w' => r = .returned (.int .i64 (firstErr [x, y])) ∧ w.alloc (.cells #[.int .i64 x, .int .i64 y] t) = w' :=
  firstError_any _ [x, y] 2 2 _ rfl (by omega) (two_cells w x y t)
theorem first2 (x y : Int) (t : TypeId) (w : World) :
    Calls Tryd.prog 50 #[.slice (some ⟨w.heap.size, 0, none⟩) 2 2] (w.alloc (.cells #[.int .i64 x, .int .i64 y] t)) fun r w' => r = .returned (.int .i64 (firstErr [x, y])) ∧ w.alloc (.cells #[.int .i64 x, .int .i64 y] t) = w' :=
  first_any _ [x, y] 2 2 _ rfl (by omega) (two_cells w x y t)
end Go.Proofs.YtokdoklkaojheaaDoor

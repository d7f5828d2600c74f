import Derived.Test.YtokdoklkaojheaaDoorMd
namespace Go.Proofs.YtokdoklkaojheaaDoor
open Go.RowKit

theorem refLetter_any (r : Int) (w : World) : Calls Tryd.prog 81 #[.int .u8 r] w fun e w' => e = .returned (.bool (isLetZ r)) ∧ w = w' := by
  have hc : (97 ≤ r ∧ r ≤ 122) ∨ (122 < r) ∨ (90 < r ∧ r < 97) ∨ (65 ≤ r ∧ r ≤ 90) ∨ (r < 65) := by omega
  rcases hc with ⟨h1, h2⟩ | h1 | ⟨h1, h2⟩ | ⟨h1, h2⟩ | h1
  all_goals
    have hd : isLetZ r = decide (97 ≤ r ∧ r ≤ 122 ∨ 65 ≤ r ∧ r ≤ 90) := rfl
    first | (have d1 : decide ((97 : Int) ≤ r) = true := by simp; omega) | (have d1 : decide ((97 : Int) ≤ r) = false := by simp; omega)
    first | (have d2 : decide (r ≤ (122 : Int)) = true := by simp; omega) | (have d2 : decide (r ≤ (122 : Int)) = false := by simp; omega)
    first | (have d3 : decide ((65 : Int) ≤ r) = true := by simp; omega) | (have d3 : decide ((65 : Int) ≤ r) = false := by simp; omega)
    first | (have d4 : decide (r ≤ (90 : Int)) = true := by simp; omega) | (have d4 : decide (r ≤ (90 : Int)) = false := by simp; omega)
    first
      | (have hv : isLetZ r = true := by rw [hd]; simp; omega)
      | (have hv : isLetZ r = false := by rw [hd]; simp; omega)
    rw [hv]
    clear hd hv
    go_enter Tryd.func81, Tryd.ntmps81
    go_wp2
    go_ret
    exact ⟨rfl, rfl⟩

theorem refDigit_any (r : Int) (w : World) : Calls Tryd.prog 68 #[.int .u8 r] w fun e w' => e = .returned (.bool (isDigZ r)) ∧ w = w' := by
  have hc : (48 ≤ r ∧ r ≤ 57) ∨ (57 < r) ∨ (r < 48) := by omega
  rcases hc with ⟨h1, h2⟩ | h1 | h1
  all_goals
    have hd : isDigZ r = decide (48 ≤ r ∧ r ≤ 57) := rfl
    first | (have d1 : decide ((48 : Int) ≤ r) = true := by simp; omega) | (have d1 : decide ((48 : Int) ≤ r) = false := by simp; omega)
    first | (have d2 : decide (r ≤ (57 : Int)) = true := by simp; omega) | (have d2 : decide (r ≤ (57 : Int)) = false := by simp; omega)
    first
      | (have hv : isDigZ r = true := by rw [hd]; simp; omega)
      | (have hv : isDigZ r = false := by rw [hd]; simp; omega)
    rw [hv]
    clear hd hv
    go_enter Tryd.func68, Tryd.ntmps68
    go_wp2
    go_ret
    exact ⟨rfl, rfl⟩

/-- a list of strings in memory -/
def strsAt (w : World) (b : Nat) (zs : List ByteArray) : Prop := ∀ i, i < zs.length → w.cell? ⟨b, i, none⟩ = some (.string (zs.getD i ⟨#[]⟩))
def hasW (zs : List ByteArray) (s : ByteArray) : Bool := zs.any fun z => z.toList == s.toList

theorem hasW_step (zs : List ByteArray) (s : ByteArray) (k : Nat) (h : k < zs.length) (e : ((zs.getD k ⟨#[]⟩).toList == s.toList) = false) : hasW (zs.drop k) s = hasW (zs.drop (k + 1)) s := by
  rw [List.drop_eq_getElem_cons h]
  rw [getD_at _ _ _ h] at e
  simp only [hasW, List.any_cons, e, Bool.false_or]
theorem hasW_hit (zs : List ByteArray) (s : ByteArray) (k : Nat) (h : k < zs.length) (e : ((zs.getD k ⟨#[]⟩).toList == s.toList) = true) : hasW (zs.drop k) s = true := by
  rw [List.drop_eq_getElem_cons h]
  rw [getD_at _ _ _ h] at e
  simp only [hasW, List.any_cons, e, Bool.true_or]

set_option maxHeartbeats 400000 in
theorem hasWord_any (b : Nat) (zs : List ByteArray) (n c : Nat) (s : ByteArray) (w : World) (hn : n = zs.length) (hm : n ≤ 1000000) (hc : strsAt w b zs) :
    Calls Tryd.prog 92 #[.slice (some ⟨b, 0, none⟩) n c, .string s] w fun r w' => r = .returned (.bool (hasW zs s)) ∧ w = w' := by
  have Hn := Lib.hid hn; clear hn
  have Hc := Lib.hid hc; clear hc
  go_enter Tryd.func92, Tryd.ntmps92
  go_wp2
  go_loop [5] (fun i => ∃ k : Nat, k ≤ n ∧ i = .int .i64 k ∧ hasW zs s = hasW (zs.drop k) s) (fun i => n - (intOf i).toNat)
  case atStart => exact ⟨0, Nat.zero_le _, rfl, rfl⟩
  case round =>
    obtain ⟨k, hk, rfl, hr⟩ := hrel
    have Hr := Lib.hid hr; clear hr
    by_cases hlt : k < n
    · have hkz : k < zs.length := by have := Hn.out; omega
      have hcell := Hc.out k hkz
      cases he : ((zs.getD k ⟨#[]⟩).toList == s.toList) with
      | false =>
        have hst := Hr.out.trans (hasW_step zs s k hkz he)
        have Hst := Lib.hid hst; clear hst
        obtain ⟨z, hz⟩ : ∃ z, zs.getD k ⟨#[]⟩ = z := ⟨_, rfl⟩
        rw [hz] at hcell he
        clear hz
        go_wp2
        go_round
        case rel => exact ⟨k + 1, by omega, by go_num, Hst.out⟩
        case measure => simp [intOf]; omega
      | true =>
        have hst := Hr.out.trans (hasW_hit zs s k hkz he)
        have Hst := Lib.hid hst; clear hst
        obtain ⟨z, hz⟩ : ∃ z, zs.getD k ⟨#[]⟩ = z := ⟨_, rfl⟩
        rw [hz] at hcell he
        clear hz
        go_wp2
        go_ret
        exact ⟨by rw [Hst.out]; rfl, rfl⟩
    · have hkn : zs.drop k = [] := List.drop_of_length_le (by have := Hn.out; omega)
      have hst := Hr.out
      rw [hkn] at hst
      have Hst := Lib.hid hst; clear hst hkn
      go_wp2
      go_ret
      exact ⟨by rw [Hst.out]; rfl, rfl⟩

/-- the keywords as the specification lists them -/
def kwRef : List (List UInt8) := [[97, 114, 114, 97, 121], [97, 115], [97, 115, 115, 101, 114, 116], [97, 115, 115, 117, 109, 101], [98, 111, 111, 108], [98, 121], [99, 97, 108, 99], [99, 97, 108, 108], [99, 97, 115, 101], [99, 108, 97, 115, 115], [99, 111, 110, 115, 116], [100, 97, 116, 97, 116, 121, 112, 101], [100, 101, 99, 114, 101, 97, 115, 101, 115], [101, 108, 115, 101], [101, 110, 115, 117, 114, 101, 115], [101, 120, 105, 115, 116, 115], [101, 120, 112, 111, 114, 116], [102, 97, 108, 115, 101], [102, 111, 114, 97, 108, 108], [102, 114, 101, 115, 104], [102, 117, 101, 108], [102, 117, 110, 99, 116, 105, 111, 110], [103, 104, 111, 115, 116], [103, 114, 101, 97, 116, 101, 115, 116], [104, 105, 100, 100, 101, 110], [105, 102], [105, 109, 112, 111, 114, 116], [105, 110], [105, 110, 116], [105, 110, 118, 97, 114, 105, 97, 110, 116], [108, 101, 97, 115, 116], [108, 101, 109, 109, 97], [109, 97, 112], [109, 97, 116, 99, 104], [109, 101, 116, 104, 111, 100], [109, 111, 100, 105, 102, 105, 101, 115], [109, 111, 100, 117, 108, 101], [109, 117, 108, 116, 105, 115, 101, 116], [110, 101, 119], [111, 108, 100], [111, 112, 97, 113, 117, 101], [112, 114, 105, 110, 116], [114, 101, 97, 100, 115], [114, 101, 97, 108], [114, 101, 102, 105, 110, 101, 115], [114, 101, 113, 117, 105, 114, 101, 115], [114, 101, 116, 117, 114, 110], [114, 101, 116, 117, 114, 110, 115], [114, 101, 118, 101, 97, 108], [115, 101, 113], [115, 101, 116], [116, 104, 101, 110], [116, 114, 117, 101], [116, 121, 112, 101], [118, 97, 114], [119, 104, 105, 108, 101], [119, 105, 116, 110, 101, 115, 115]]
def kwRB : List ByteArray := kwRef.map fun l => ⟨l.toArray⟩

set_option maxRecDepth 100000 in
theorem keywords_any (w : World) :
    Calls Tryd.prog 41 #[] w fun e w' => e = .returned (.slice (some ⟨w.heap.size, 0, none⟩) 57 57) ∧ w' = w.alloc (.cells (kwRB.map Value.string).toArray 9) := by
  go_enter Tryd.func41, Tryd.ntmps41
  go_wp2
  go_ret
  exact ⟨rfl, rfl⟩

theorem strs_new (w : World) (zs : List ByteArray) (t : TypeId) : strsAt (w.alloc (.cells (zs.map Value.string).toArray t)) w.heap.size zs := by
  intro i hi
  simp [hi, List.getD]

theorem toList_eq (s : ByteArray) : s.toList = s.data.toList := Lib.toList_data s
theorem hasW_mem (zs : List (List UInt8)) (s : ByteArray) : hasW (zs.map fun l => ⟨l.toArray⟩) s = decide (s.data.toList ∈ zs) := by
  unfold hasW
  rw [Bool.eq_iff_iff, decide_eq_true_eq, List.any_eq_true]
  constructor
  · rintro ⟨z, hz, he⟩
    obtain ⟨l, hl, rfl⟩ := List.mem_map.1 hz
    rw [toList_eq, toList_eq] at he
    have : l = s.data.toList := by simpa using he
    rw [← this]; exact hl
  · intro h
    exact ⟨⟨s.data.toList.toArray⟩, List.mem_map.2 ⟨_, h, rfl⟩, by rw [toList_eq]; simp⟩
theorem kwRef_mem (l : List UInt8) : l ∈ kwRef ↔ l ∈ kwL := by
  have h1 : ∀ x ∈ kwRef, x ∈ kwL := by decide +kernel
  have h2 : ∀ x ∈ kwL, x ∈ kwRef := by decide +kernel
  exact ⟨h1 l, h2 l⟩
theorem kw_list (s : ByteArray) : hasW kwRB s = decide (s.data.toList ∈ kwL) := by
  unfold kwRB
  rw [hasW_mem, Bool.eq_iff_iff, decide_eq_true_eq, decide_eq_true_eq, kwRef_mem]
end Go.Proofs.YtokdoklkaojheaaDoor

import Derived.Test.YtokdoklkaojheaaDoorWh
import Derived.Test.YtokdoklkaojheaaDoorLa
namespace Go.Proofs.YtokdoklkaojheaaDoor
open Go.RowKit

def Tab (w : World) : Prop := Lib.TabIs Tryd.prog w "strings.asciiSpace" .u8 Lib.asciiSpaceTab

theorem Tryd.zeroBool (w : World) : (zeroValue 4).run Tryd.prog w = .ok (.bool false) w := by kernel_rfl

theorem take_snoc_list {α : Type} (l : List α) (k : Nat) (h : k < l.length) : l.take (k + 1) = l.take k ++ [l[k]] := List.take_succ_eq_append_getElem h

theorem nodup_new {α : Type} (l : List α) (h : l.Nodup) (k : Nat) (hk : k < l.length) : l[k] ∉ l.take k := by
  intro hm
  rw [List.mem_take_iff_getElem] at hm
  obtain ⟨i, hi, he⟩ := hm
  exact List.pairwise_iff_getElem.1 h i k (by omega) hk (by omega) he

theorem run_make67 (n : Int) (w : World) : (Instr.makeMap 67 (some (.int .i64 n))).run Tryd.prog w = .ok (.map (some w.heap.size)) (w.alloc (setObjOf [])) := by
  simp [Instr.makeMap, run_underlying Tryd.underlying67, Result.andThen, asInt, asIntOf, newObj, Sem.run, setObjOf, entsFrom]

set_option maxHeartbeats 1000000 in
set_option maxRecDepth 100000 in
theorem wordSet_any (s : ByteArray) (L : List (List UInt8)) (w : World) (hs : s.size < 65536) (hascii : ∀ (j : Nat) b, s.data.toList[j]? = some b → b.toNat < 128)
    (hL : Lib.fields s.data.toList = L) (hnd : L.Nodup) (hlen : L.length ≤ 65536) (ht : Tab w) :
    Calls Tryd.prog 46 #[.string s] w fun e w' => e = .returned (.map (some (w.heap.size + 1))) ∧ w' = (w.alloc (.cells (L.map fun l => Value.string ⟨l.toArray⟩).toArray 9)).alloc (setObjOf L) := by
  have Ht := Lib.hid ht; clear ht
  have HL := Lib.hid hL; clear hL
  have Ha := Lib.hid hascii; clear hascii
  have Hn := Lib.hid hnd; clear hnd
  have c := Tryd.strings_Fields s w (by omega) Ha.out Ht.out
  rw [HL.out] at c
  obtain ⟨W, hW⟩ : ∃ W, w.alloc (.cells (L.map fun l => Value.string ⟨l.toArray⟩).toArray 9) = W := ⟨_, rfl⟩
  have hsz : w.heap.size + 1 = W.heap.size := by rw [← hW]; simp
  have hcell : ∀ j (h : j < L.length), W.cell? ⟨w.heap.size, j, none⟩ = some (.string ⟨L[j].toArray⟩) := by
    intro j h; rw [← hW]; simp [h]
  rw [hW] at c ⊢
  rw [hsz]
  have c' := c.mono (R' := fun e w' => e = .returned (.slice (some ⟨w.heap.size, 0, none⟩) L.length L.length) ∧ W = w') (fun _ _ h => ⟨h.1, h.2.symm⟩)
  have C := Lib.hid c'; clear c c'
  have Hc := Lib.hid hcell; clear hcell
  have Hsz := Lib.hid hsz; clear hsz
  have HW := Lib.hid hW; clear hW
  obtain ⟨n, hn⟩ : ∃ n, L.length = n := ⟨_, rfl⟩
  rw [hn] at C hlen
  have Hln := Lib.hid hn; clear hn
  have hmm := run_make67
  go_enter Tryd.func46, Tryd.ntmps46
  go_wp2_with fail
  refine C.out.mono ?_; rintro e w1 ⟨rfl, rfl⟩
  go_wp2
  go_loopw [14] (fun i wr => ∃ k : Nat, k ≤ n ∧ i = .int .i64 k ∧ wr = W.alloc (setObjOf (L.take k))) (fun i _ => n - (intOf i).toNat)
  case atStart => exact ⟨0, Nat.zero_le _, rfl, rfl⟩
  case round =>
    obtain ⟨k, hk, rfl, rfl⟩ := hrel
    by_cases hlt : k < n
    · have hkl : k < L.length := by have := Hln.out; omega
      have hc1 := (World.cell?_alloc_lt W (setObjOf (L.take k)) ⟨w.heap.size, k, none⟩ (by have := Hsz.out; simp; omega)).trans (Hc.out k hkl)
      have hup := run_update_set (P := Tryd.prog) 67 9 4 ⟨L[k].toArray⟩ (L.take k) W Tryd.underlying67 Tryd.underlying9 (by simpa using nodup_new L Hn.out k hkl)
      go_wp2
      go_roundw
      case rel => exact ⟨k + 1, by omega, by go_num, by rw [take_snoc_list L k hkl]⟩
      case measure => simp [intOf]; omega
    · have hkn : L.take k = L := List.take_of_length_le (by have := Hln.out; omega)
      rw [hkn]
      go_wp2
      go_ret
      exact ⟨rfl, rfl⟩
end Go.Proofs.YtokdoklkaojheaaDoor

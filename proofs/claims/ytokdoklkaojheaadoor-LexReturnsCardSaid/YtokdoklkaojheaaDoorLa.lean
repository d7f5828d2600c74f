/- Laws on a set of words that the program made: a map from strings to bools in which each value is true: a look-up, a store of a new word. Over whatever program. -/
import Derived.WideMake
import Derived.WalkKit
namespace Go.Proofs.YtokdoklkaojheaaDoor
open Go

theorem ba_beq (s t : ByteArray) : (s == t) = decide (s = t) := by
  cases s with | mk a => cases t with | mk b =>
  rw [Bool.eq_iff_iff, decide_eq_true_iff, ByteArray.mk.injEq]
  show (a == b) = true ↔ a = b
  exact beq_iff_eq
def entsFrom : Nat → List (List UInt8) → List MapEntry
  | _, [] => []
  | i, l :: L => { key := .string ⟨l.toArray⟩, val := .bool true, born := i } :: entsFrom (i + 1) L
def setObjOf (L : List (List UInt8)) : Obj := .map (entsFrom 0 L).toArray L.length

theorem entsFrom_snoc (k : List UInt8) : ∀ (L : List (List UInt8)) (i : Nat), entsFrom i (L ++ [k]) = entsFrom i L ++ [{ key := .string ⟨k.toArray⟩, val := .bool true, born := i + L.length }]
  | [], i => by simp [entsFrom]
  | l :: L, i => by
    simp only [List.cons_append, entsFrom, entsFrom_snoc k L (i + 1), List.length_cons]
    rw [show i + 1 + L.length = i + (L.length + 1) by omega]

theorem findNow_in (s : ByteArray) : ∀ (L : List (List UInt8)) (i j : Nat), s.data.toList ∈ L → ∃ n, Instr.findNow .string (.string s) (entsFrom i L) j = some (some (n, .bool true))
  | [], _, _, h => by simp at h
  | l :: L, i, j, h => by
    simp only [entsFrom, Instr.findNow, Instr.sameNow]
    by_cases e : s = ⟨l.toArray⟩
    · have : (s == (⟨l.toArray⟩ : ByteArray)) = true := by rw [ba_beq]; simpa using e
      rw [this]; exact ⟨j, rfl⟩
    · have : (s == (⟨l.toArray⟩ : ByteArray)) = false := by rw [ba_beq]; simpa using e
      rw [this]
      exact findNow_in s L (i + 1) (j + 1) (by
        rcases List.mem_cons.1 h with h | h
        · exact absurd (by cases s; simp at h ⊢; rw [← h]) e
        · exact h)
theorem findNow_out (s : ByteArray) : ∀ (L : List (List UInt8)) (i j : Nat), s.data.toList ∉ L → Instr.findNow .string (.string s) (entsFrom i L) j = some none
  | [], _, _, _ => rfl
  | l :: L, i, j, h => by
    simp only [entsFrom, Instr.findNow, Instr.sameNow]
    have : (s == (⟨l.toArray⟩ : ByteArray)) = false := by
      rw [ba_beq]; simp only [decide_eq_false_iff_not]; intro e; apply h; rw [e]; simp
    rw [this]
    exact findNow_out s L (i + 1) (j + 1) (fun h' => h (List.mem_cons_of_mem _ h'))

variable {P : Program}
theorem run_lookup_set (T K E : TypeId) (s : ByteArray) (b : Nat) (L : List (List UInt8)) (w : World) (hT : P.underlying T = some (.map K E)) (hK : P.underlying K = some .string)
    (hE : ∀ w, (zeroValue E).run P w = .ok (.bool false) w) (hb : w.heap[b]? = some (setObjOf L)) :
    (Instr.lookup T (.map (some b)) (.string s) false).run P w = .ok (.bool (decide (s.data.toList ∈ L))) w := by
  have hb' : w.heap[b]? = some (.map (entsFrom 0 L).toArray L.length) := hb
  by_cases h : s.data.toList ∈ L
  · obtain ⟨n, hn⟩ := findNow_in s L 0 0 h
    have hc : ∀ e, (Instr.checkKey e 10000 K (.string s)).run P w = .ok () w := fun e => MapKept.run_checkKey (k := .string s) hK (by simp [MapKept.IsKey]) e 9999
    simp [Instr.lookup, run_underlying hT, MapKept.run_getObj_map hb', hc, MapKept.run_findKey hK hn, Result.andThen, h]
  · have hn := findNow_out s L 0 0 h
    have hc : ∀ e, (Instr.checkKey e 10000 K (.string s)).run P w = .ok () w := fun e => MapKept.run_checkKey (k := .string s) hK (by simp [MapKept.IsKey]) e 9999
    simp [Instr.lookup, run_underlying hT, MapKept.run_getObj_map hb', hc, MapKept.run_findKey hK hn, Result.andThen, h, hE]

theorem run_update_set (T K E : TypeId) (s : ByteArray) (L : List (List UInt8)) (w : World) (hT : P.underlying T = some (.map K E)) (hK : P.underlying K = some .string) (hn : s.data.toList ∉ L) :
    (Instr.mapUpdate T (.map (some w.heap.size)) (.string s) (.bool true)).run P (w.alloc (setObjOf L)) = .ok () (w.alloc (setObjOf (L ++ [s.data.toList]))) := by
  have hb : (w.alloc (setObjOf L)).heap[w.heap.size]? = some (.map (entsFrom 0 L).toArray L.length) := by
    show (w.heap.push (setObjOf L))[w.heap.size]? = _
    simp [setObjOf]
  have hf := findNow_out s L 0 0 hn
  have hc : (Instr.checkKey false 10000 K (.string s)).run P (w.alloc (setObjOf L)) = .ok () (w.alloc (setObjOf L)) := MapKept.run_checkKey (k := .string s) hK (by simp [MapKept.IsKey]) false 9999
  have he : { w.alloc (setObjOf L) with heap := (w.alloc (setObjOf L)).heap.setIfInBounds w.heap.size (setObjOf (L ++ [s.data.toList])) } = w.alloc (setObjOf (L ++ [s.data.toList])) := by
    simp only [World.alloc]
    congr 1
    apply Array.ext'
    simp [Array.setIfInBounds, Array.toList_push]
  rw [← he]
  have hs : (⟨s.data.toList.toArray⟩ : ByteArray) = s := by cases s; simp
  have ho : setObjOf (L ++ [s.data.toList]) = .map ((entsFrom 0 L).toArray.push { key := .string s, val := .bool true, born := L.length }) (L.length + 1) := by
    simp [setObjOf, entsFrom_snoc, hs]
  rw [ho]
  simp [Instr.mapUpdate, run_underlying hT, MapKept.run_getObj_map hb, hc, MapKept.run_findKey hK hf, MapKept.run_setObj_map _ hb, Result.andThen]
end Go.Proofs.YtokdoklkaojheaaDoor

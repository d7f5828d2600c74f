import Derived.Test.YtokdoklkaojheaaDoorWi
import Derived.Test.YtokdoklkaojheaaDoorMc
namespace Go.Proofs.YtokdoklkaojheaaDoor
open Go.RowKit

theorem Tab.keep {w w' : World} (h : Tab w) (hb : w'.heap[0]? = w.heap[0]?) : Tab w' := by
  have hgn : Tryd.prog.globalNamed "strings.asciiSpace" = some 0 := by kernel_rfl
  unfold Tab Lib.TabIs World.var? at h ⊢
  rw [hgn] at h ⊢
  simp only [Option.bind_some] at h ⊢
  rw [hb]; exact h
theorem Tab.size {w : World} (h : Tab w) : 0 < w.heap.size := by
  have hgn : Tryd.prog.globalNamed "strings.asciiSpace" = some 0 := by kernel_rfl
  unfold Tab Lib.TabIs World.var? at h
  rw [hgn] at h
  simp only [Option.bind_some] at h
  rcases Nat.lt_or_ge 0 w.heap.size with h' | h'
  · exact h'
  · rw [Array.getElem?_eq_none h'] at h; cases h
theorem Tab.below {w w' : World} (h : Tab w) (hb : Below w.heap.size w w') : Tab w' := h.keep (hb.block 0 h.size)
theorem Tab.alloc {w : World} (h : Tab w) (o : Obj) : Tab (w.alloc o) := h.below ((Below.refl _ _).alloc (Nat.le_refl _) o)

theorem heap_alloc_lt {w : World} {o : Obj} {k : Nat} (h : k < w.heap.size) : (w.alloc o).heap[k]? = w.heap[k]? := by
  show (w.heap.push o)[k]? = _
  rw [Array.getElem?_push]; simp [Nat.ne_of_lt h]
theorem heap_alloc_at (w : World) (o : Obj) : (w.alloc o).heap[w.heap.size]? = some o := by
  show (w.heap.push o)[w.heap.size]? = _
  simp

theorem heap_alloc_at' (w : World) (o : Obj) (k : Nat) (h : k = w.heap.size) : (w.alloc o).heap[k]? = some o := by rw [h]; exact heap_alloc_at w o
theorem ascii_of (l : List UInt8) (h : l.all (fun b => decide (b.toNat < 128)) = true) : ∀ (j : Nat) b, l[j]? = some b → b.toNat < 128 := by
  intro j b hj
  have := List.all_eq_true.1 h b (List.mem_of_getElem? hj)
  simpa using this

def IsScanner (w : World) (kb sb : Nat) : Prop := w.heap[kb]? = some (setObjOf kwL) ∧ w.heap[sb]? = some (setObjOf sgwL)
theorem IsScanner.lt {w : World} {kb sb : Nat} (h : IsScanner w kb sb) : kb < w.heap.size ∧ sb < w.heap.size :=
  ⟨(Array.getElem?_eq_some_iff.1 h.1).1, (Array.getElem?_eq_some_iff.1 h.2).1⟩
theorem IsScanner.below {w w' : World} {kb sb B : Nat} (h : IsScanner w kb sb) (h1 : kb < B) (h2 : sb < B) (hb : Below B w w') : IsScanner w' kb sb :=
  ⟨(hb.block _ h1).trans h.1, (hb.block _ h2).trans h.2⟩

set_option maxHeartbeats 1000000 in
set_option maxRecDepth 100000 in
theorem newScanner_any (w : World) (ht : Tab w) :
    Calls Tryd.prog 36 #[] w fun e w' => ∃ kb sb, e = .returned (.agg #[.map (some kb), .map (some sb)]) ∧ IsScanner w' kb sb ∧ w.heap.size ≤ kb ∧ w.heap.size ≤ sb ∧ Below w.heap.size w w' := by
  have Ht := Lib.hid ht; clear ht
  go_enter Tryd.func36, Tryd.ntmps36
  go_wp2_with fail
  refine (wordSet_any _ kwL _ (by decide +kernel) (ascii_of _ (by decide +kernel)) (by decide +kernel) kwL_nodup (by decide +kernel) (Ht.out.alloc _)).mono ?_
  rintro e w1 ⟨rfl, rfl⟩
  go_wp2_with fail
  refine (wordSet_any _ sgwL _ (by decide +kernel) (ascii_of _ (by decide +kernel)) (by decide +kernel) sgwL_nodup (by decide +kernel) (((Ht.out.alloc _).alloc _).alloc _)).mono ?_
  rintro e w1 ⟨rfl, rfl⟩
  go_wp2
  refine bodyPost_ret (v := .agg #[.map (some (w.heap.size + 2)), .map (some (w.heap.size + 4))]) ?_ rfl ?_
  · simp [results, Tryd.results36, go_sem]
  · refine ⟨w.heap.size + 2, w.heap.size + 4, rfl, ⟨?_, ?_⟩, by omega, by omega, ?_⟩
    · exact (heap_alloc_lt (by simp)).trans ((heap_alloc_lt (by simp)).trans (heap_alloc_at' _ _ _ (by simp)))
    · exact heap_alloc_at' _ _ _ (by simp)
    · exact (((((Below.refl _ w).alloc (Nat.le_refl _) _).alloc (by simp) _).alloc (by simp; omega) _).alloc (by simp; omega) _).alloc (by simp; omega) _
end Go.Proofs.YtokdoklkaojheaaDoor

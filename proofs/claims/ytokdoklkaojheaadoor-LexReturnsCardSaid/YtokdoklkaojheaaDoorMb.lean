/- Plain facts: a range over a string's runes under a test that is one for all runes beyond ASCII goes by bytes. No program stands in it. -/
import Derived.Laws.RangeAny
import Derived.Lib.Strings
namespace Go.Proofs.YtokdoklkaojheaaDoor
open Go

theorem decode_span (s : ByteArray) (pos : Nat) (h : pos < s.size) (ha : 128 ≤ (s[pos]'h).toNat) :
    pos + (Utf8.decode s pos).2 ≤ s.size ∧ ∀ k, k < (Utf8.decode s pos).2 → 128 ≤ (s.get! (pos + k)).toNat := by
  have hn : ¬ (s[pos]'h).toNat < 128 := by omega
  have e0 := get_at s pos h
  have k0 : ∀ k, k < 1 → 128 ≤ (s.get! (pos + k)).toNat := by
    intro k hk
    rw [show k = 0 by omega, e0]; exact ha
  simp only [Utf8.decode, e0, hn, if_false]
  repeat' split
  all_goals (first | exact ⟨by simp; omega, k0⟩ | skip)
  · rename_i hc _
    simp only [Bool.and_eq_true, beq_iff_eq, decide_eq_true_eq] at hc
    refine ⟨by simp; omega, ?_⟩
    intro k hk
    simp only at hk
    have : k = 0 ∨ k = 1 := by omega
    rcases this with rfl | rfl
    · exact k0 0 (by omega)
    · omega
  · rename_i hc _
    simp only [Bool.and_eq_true, beq_iff_eq, decide_eq_true_eq] at hc
    refine ⟨by simp; omega, ?_⟩
    intro k hk
    simp only at hk
    have : k = 0 ∨ k = 1 ∨ k = 2 := by omega
    rcases this with rfl | rfl | rfl
    · exact k0 0 (by omega)
    · omega
    · omega
  · rename_i hc _
    simp only [Bool.and_eq_true, beq_iff_eq, decide_eq_true_eq] at hc
    refine ⟨by simp; omega, ?_⟩
    intro k hk
    simp only at hk
    have : k = 0 ∨ k = 1 ∨ k = 2 ∨ k = 3 := by omega
    rcases this with rfl | rfl | rfl | rfl
    · exact k0 0 (by omega)
    · omega
    · omega
    · omega

/-- how many bytes at the beginning of a list pass a test -/
def tw (p : UInt8 → Bool) (l : List UInt8) : Nat := (l.takeWhile p).length
theorem tw_le (p : UInt8 → Bool) (l : List UInt8) : tw p l ≤ l.length := List.IsPrefix.length_le (List.takeWhile_prefix p)
theorem tw_cons (p : UInt8 → Bool) (c : UInt8) (l : List UInt8) : tw p (c :: l) = if p c then tw p l + 1 else 0 := by
  unfold tw; rw [List.takeWhile_cons]; split <;> simp
theorem tw_stop (p : UInt8 → Bool) : ∀ (l : List UInt8) (k : Nat) (hk : k < l.length), (∀ i (h : i < k), p (l[i]'(by omega)) = true) → p l[k] = false → tw p l = k
  | [], k, hk, _, _ => by simp at hk
  | c :: l, 0, _, _, h => by rw [tw_cons]; simp at h; simp [h]
  | c :: l, k + 1, hk, h1, h2 => by
    rw [tw_cons, if_pos (by simpa using h1 0 (by omega)), tw_stop p l k (by simpa using hk) (fun i hi => by simpa using h1 (i + 1) (by omega)) (by simpa using h2)]
theorem tw_all' (p : UInt8 → Bool) : ∀ l : List UInt8, (∀ c ∈ l, p c = true) → tw p l = l.length
  | [], _ => rfl
  | c :: l, h => by rw [tw_cons, if_pos (h c (by simp)), tw_all' p l (fun x hx => h x (by simp [hx]))]; rfl
theorem tw_all (p : UInt8 → Bool) (l : List UInt8) (h : ∀ i (hi : i < l.length), p (l[i]'hi) = true) : tw p l = l.length :=
  tw_all' p l fun a ha => by obtain ⟨i, hi, rfl⟩ := List.getElem_of_mem ha; exact h i hi
theorem get!_at (s : ByteArray) (k : Nat) (h : k < s.size) : s.get! k = s.data.toList[k]'(by simpa using h) := by
  have := get_at s k h
  rw [Nat.add_zero] at this
  rw [this]; rfl
end Go.Proofs.YtokdoklkaojheaaDoor

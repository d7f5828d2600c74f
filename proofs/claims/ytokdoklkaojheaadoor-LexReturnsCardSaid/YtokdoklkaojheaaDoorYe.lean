import Derived.Test.YtokdoklkaojheaaDoorYd
namespace Go.Proofs.YtokdoklkaojheaaDoor
open Go.RowKit

def bitsB (l : List UInt8) : Bool := Lib.hasPrefix l [98, 118] && bitsW (Lib.trimPrefix l [98, 118])

theorem beq_list (s : ByteArray) (l : List UInt8) : (s.toList == l) = decide (s.data.toList = l) := by
  rw [toList_eq, Bool.eq_iff_iff, decide_eq_true_eq, beq_iff_eq]

theorem prefix_two (s : ByteArray) (h : 2 ≤ s.size) : Lib.hasPrefix s.data.toList [98, 118] = decide (s.data.toList.take 2 = [98, 118]) := by
  rw [Bool.eq_iff_iff, decide_eq_true_eq]
  unfold Lib.hasPrefix
  rw [List.isPrefixOf_iff_prefix, List.prefix_iff_eq_take]
  simp [eq_comm]
theorem trim_two (l : List UInt8) (h : Lib.hasPrefix l [98, 118] = true) : Lib.trimPrefix l [98, 118] = l.drop 2 := by
  unfold Lib.trimPrefix; rw [if_pos h]; rfl

theorem isDigB_iff (c : UInt8) : isDigB c = true ↔ 48 ≤ c.toNat ∧ c.toNat ≤ 57 := by
  unfold isDigB isDigZ; simp; omega

/-- a byte array of one byte, of two bytes -/
theorem one_byte (D : ByteArray) (h : D.size = 1) : ∃ c, D.data.toList = [c] := by
  have : D.data.toList.length = 1 := by simpa using h
  match hl : D.data.toList, this with
  | [c], _ => exact ⟨c, rfl⟩
theorem two_bytes (D : ByteArray) (h : D.size = 2) : ∃ c d, D.data.toList = [c, d] := by
  have : D.data.toList.length = 2 := by simpa using h
  match hl : D.data.toList, this with
  | [c, d], _ => exact ⟨c, d, rfl⟩

def le64 (D : ByteArray) : Bool := Op.bytesLess D.toList [54, 52] || D.toList == [54, 52]
theorem le64_two (D : ByteArray) (c d : UInt8) (h : D.data.toList = [c, d]) (hc : isDigB c = true) (hd : isDigB d = true) : le64 D = decide (num D.data.toList ≤ 64) := by
  have h1 := (isDigB_iff c).1 hc
  have h2 := (isDigB_iff d).1 hd
  unfold le64
  rw [toList_eq, h, Bool.eq_iff_iff, decide_eq_true_eq]
  simp only [Op.bytesLess, num, List.foldl_cons, List.foldl_nil, Bool.or_eq_true, Bool.and_eq_true, decide_eq_true_eq, beq_iff_eq, List.cons.injEq, and_true, Bool.or_false, Bool.and_false]
  simp only [UInt8.lt_iff_toNat_lt, ← UInt8.toNat_inj, UInt8.toNat_ofNat]
  simp
  omega

theorem tw_dig (D : ByteArray) : ¬ tw isDigB D.data.toList < D.data.toList.length ↔ allFrom isDigB D 0 = true := by
  have h := tw_len isDigB D.data.toList
  have hle := tw_le isDigB D.data.toList
  unfold allFrom
  rw [List.drop_zero, ← h]; omega

/-- the width of a bit vector's word, as the specification tests it -/
theorem bits_bad (D : ByteArray) (h : numOk D 2 = false) : bitsW D.data.toList = false := by
  unfold bitsW
  by_cases h1 : 2 < D.data.toList.length
  · rw [if_pos h1]
  rw [if_neg h1]
  by_cases h2 : tw isDigB D.data.toList < D.data.toList.length
  · rw [if_pos h2]
  rw [if_neg h2]
  by_cases h3 : Lib.hasPrefix D.data.toList [48] = true
  · rw [if_pos h3]
  rw [if_neg h3]
  have ha := (tw_dig D).1 h2
  have hl : D.data.toList.length = D.size := by simp
  unfold numOk at h
  rw [ha, Bool.and_true] at h
  by_cases h0 : D.size = 0
  · have : D.data.toList = [] := List.length_eq_zero_iff.1 (by omega)
    rw [this]; decide
  · exfalso
    rw [decide_eq_true ⟨h0, by omega⟩, Bool.true_and] at h
    have hz : zeroB D = true := by simpa using h
    unfold zeroB at hz
    simp only [Bool.and_eq_true, decide_eq_true_eq] at hz
    obtain ⟨c, d, hcd⟩ := two_bytes D (by omega)
    rw [hcd] at hz h3
    have : c = 48 := by rw [← UInt8.toNat_inj]; simpa using hz.2
    subst this
    exact h3 (by simp [Lib.hasPrefix, List.isPrefixOf])
theorem bits_one (D : ByteArray) (h : numOk D 2 = true) (h1 : D.size = 1) : bitsW D.data.toList = !(D.toList == [48]) := by
  obtain ⟨c, hc⟩ := one_byte D h1
  unfold numOk at h
  simp only [Bool.and_eq_true] at h
  have ha := (tw_dig D).2 h.2
  unfold bitsW
  rw [beq_list]
  rw [hc] at ha ⊢
  have hd : isDigB c = true := by
    have := (tw_len isDigB [c]).1 (by have := tw_le isDigB [c]; omega)
    simpa using this
  have hd2 := (isDigB_iff c).1 hd
  rw [if_neg (by simp), if_neg ha]
  by_cases h48 : c = 48
  · subst h48; decide
  · have hne : c.toNat ≠ 48 := fun e => h48 (by rw [← UInt8.toNat_inj]; exact e)
    rw [if_neg (by simp [Lib.hasPrefix, List.isPrefixOf, Ne.symm h48])]
    simp [num, h48]; omega
theorem bits_two (D : ByteArray) (h : numOk D 2 = true) (h1 : D.size = 2) : bitsW D.data.toList = le64 D ∧ (D.toList == [48]) = false := by
  obtain ⟨c, d, hcd⟩ := two_bytes D h1
  unfold numOk at h
  simp only [Bool.and_eq_true] at h
  have ha := (tw_dig D).2 h.2
  have hz := h.1.2
  unfold zeroB at hz
  rw [hcd] at ha hz
  rw [decide_eq_true (by omega : 1 < D.size), Bool.true_and] at hz
  have hall := (tw_len isDigB [c, d]).1 (by have := tw_le isDigB [c, d]; omega)
  simp only [List.all_cons, List.all_nil, Bool.and_true, Bool.and_eq_true] at hall
  rw [le64_two D c d hcd hall.1 hall.2, beq_list]
  unfold bitsW
  rw [hcd]
  have h1 := (isDigB_iff c).1 hall.1
  have h48 : c ≠ 48 := by intro e; subst e; simp at hz
  have h48' : c.toNat ≠ 48 := fun e => h48 (by rw [← UInt8.toNat_inj]; exact e)
  rw [if_neg (by simp), if_neg ha, if_neg (by simp [Lib.hasPrefix, List.isPrefixOf, Ne.symm h48])]
  refine ⟨?_, by simp⟩
  rw [Bool.eq_iff_iff]
  simp [num]; omega
end Go.Proofs.YtokdoklkaojheaaDoor

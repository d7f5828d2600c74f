/- WHAT IS PROVED: contracts of functions of the numbers package and laws for them, used by the last text of this claim. CONDITIONS: stated at each theorem. -/
import Derived.Test.YtpbegoflpfdajaaGreatDoorN38
namespace Go.Proofs.YtpbegoflpfdajaaGreatDoor
open Go.RowKit
open Go.Lib (decDigits nDigits decDigits_length)

/-- the integer with a magnitude and a sign -/
def sgn (n : Nat) (s : Bool) : Int := if s then -(n : Int) else n
/-- the integer that a text spells -/
def vz (x : ByteArray) : Int := sgn (intM x.data.toList) (intS x.data.toList)
/-- an integer's text -/
def tz (z : Int) : ByteArray := ⟨(sgText z.natAbs (decide (z < 0))).toArray⟩
/-- a text that passes Check -/
def Okz (x : ByteArray) : Prop := ckL x.data.toList = 0

theorem valL_app (a _b : List UInt8) (c : UInt8) : valL (a ++ [c]) = valL a * 10 + (c.toNat - 48) := valL_snoc a c
theorem valL_pos : ∀ (l : List UInt8) (c : UInt8) (t : List UInt8), l = c :: t → 49 ≤ c.toNat → 0 < valL l
  | l, c, t, e, h => by
    subst e
    unfold valL
    rw [List.foldl_cons]
    generalize hv : 0 * 10 + (c.toNat - 48) = v
    have h0 : 0 < v := by omega
    clear hv h
    induction t generalizing v with
    | nil => exact h0
    | cons d t ih => rw [List.foldl_cons]; exact ih _ (by omega)

/-- a number's digits are the only ones that spell it -/
theorem dec_val_aux : ∀ (k : Nat) (l : List UInt8), l.length ≤ k → 0 < l.length → (∀ c ∈ l, isDig c = true) → (l.head? = some 48 → l = [48]) → decDigits (valL l) = l
  | 0, l, h1, h2, _, _ => by omega
  | k + 1, l, h1, h2, hd, hh => by
    obtain ⟨t, c, rfl⟩ : ∃ t c, l = t ++ [c] := ⟨l.dropLast, l.getLast (by intro e; rw [e] at h2; simp at h2), (List.dropLast_concat_getLast _).symm⟩
    have hc := hd c (by simp)
    simp only [isDig, decide_eq_true_eq] at hc
    rw [valL_snoc]
    cases t with
    | nil =>
      rw [show valL [] = 0 from rfl, Nat.zero_mul, Nat.zero_add, Lib.decDigits_one (by omega)]
      rw [show 48 + (c.toNat - 48) = c.toNat by omega]
      simp
    | cons d t =>
      have hdd := hd d (by simp)
      simp only [isDig, decide_eq_true_eq] at hdd
      have hne : d ≠ 48 := by
        intro e
        subst e
        have := hh (by simp)
        simp at this
      have h49 : 49 ≤ d.toNat := by
        have : d.toNat ≠ 48 := fun e => hne (UInt8.toNat_inj.1 (by rw [e]; rfl))
        omega
      have hp := valL_pos (d :: t) d t rfl h49
      have hi := dec_val_aux k (d :: t) (by simp at h1 ⊢; omega) (by simp) (fun x hx => hd x (by simp at hx ⊢; rcases hx with h | h <;> simp [h])) (fun e => absurd (by simpa using e) hne)
      rw [dec_step _ (by omega), show (valL (d :: t) * 10 + (c.toNat - 48)) / 10 = valL (d :: t) by omega, show (valL (d :: t) * 10 + (c.toNat - 48)) % 10 = c.toNat - 48 by omega, hi, show 48 + (c.toNat - 48) = c.toNat by omega]
      simp
theorem dec_val (l : List UInt8) (h2 : 0 < l.length) (hd : ∀ c ∈ l, isDig c = true) (hh : l.head? = some 48 → l = [48]) : decDigits (valL l) = l :=
  dec_val_aux l.length l (Nat.le_refl _) h2 hd hh

theorem okz_parts {l : List UInt8} (h : ckL l = 0) : 0 < (noMinus l).length ∧ (∀ c ∈ noMinus l, isDig c = true) ∧ ((noMinus l).head? = some 48 → l = [48]) ∧ (noMinus l).length ≤ 120 := by
  obtain ⟨h1, h2, h3⟩ := ck_dig l h
  refine ⟨h2, fun c hc => ?_, fun hh => ?_, h3⟩
  · obtain ⟨i, hi, rfl⟩ := List.getElem_of_mem hc
    simp only [isDig, decide_eq_true_eq]
    exact h1.2 i hi
  · unfold ckL at h
    split at h
    · omega
    · split at h
      · omega
      · rename_i hn
        exact Classical.byContradiction fun hl => hn ⟨hh, hl⟩

/-- a text that passes Check is its integer's text -/
theorem tz_vz {x : ByteArray} (h : Okz x) : tz (vz x) = x := by
  obtain ⟨h1, h2, h3, _⟩ := okz_parts h
  apply ByteArray.ext
  apply Array.toList_inj.1
  show (sgText (vz x).natAbs (decide (vz x < 0))) = x.data.toList
  unfold vz
  generalize x.data.toList = l at *
  rcases noMinus_cases l with ⟨t, ht, hn⟩ | ⟨hh, hn⟩
  · rw [hn] at h1 h2 h3
    have hz : intM l ≠ 0 := by
      unfold intM
      rw [hn]
      cases t with
      | nil => simp at h1
      | cons d t =>
        have hdd := h2 d (by simp)
        simp only [isDig, decide_eq_true_eq] at hdd
        have hne : d ≠ 48 := by
          intro e
          have := h3 (by rw [e]; rfl)
          rw [ht] at this
          simp at this
        have h49 : 49 ≤ d.toNat := by
          have : d.toNat ≠ 48 := fun e => hne (UInt8.toNat_inj.1 (by rw [e]; rfl))
          omega
        have := valL_pos (d :: t) d t rfl h49
        omega
    have hs : intS l = true := by unfold intS; rw [ht] at hz ⊢; simp [hz]
    have hd := dec_val t h1 h2 (fun e => by have := h3 e; rw [ht] at this; simp at this)
    have hm : intM l = valL t := by unfold intM; rw [hn]
    rw [hs, hm]
    unfold sgn
    rw [if_pos rfl, decide_eq_true (by omega)]
    unfold sgText
    rw [if_pos rfl, show (-(valL t : Int)).natAbs = valL t by omega, hd, ht]
  · rw [hn] at h1 h2 h3
    have hs : intS l = false := by unfold intS; rw [show (l.head? == some 45) = false by simpa using hh]; rfl
    have hd := dec_val l h1 h2 h3
    have hm : intM l = valL l := by unfold intM; rw [hn]
    rw [hs, hm]
    unfold sgn
    rw [if_neg (by decide), decide_eq_false (by omega)]
    unfold sgText
    rw [if_neg (by decide), show ((valL l : Nat) : Int).natAbs = valL l by omega, hd]

theorem nD_fit {n : Nat} (h : n < 10 ^ 120) : nDigits n ≤ 120 := nD_le 119 n h
theorem noMinus_neg (l : List UInt8) : noMinus (45 :: l) = l := by
  rcases noMinus_cases (45 :: l) with ⟨t, ht, hn⟩ | ⟨hh, _⟩
  · rw [hn]; exact (List.cons.inj ht).2.symm
  · exact absurd rfl hh
theorem tz_list (z : Int) : (tz z).data.toList = sgText z.natAbs (decide (z < 0)) := rfl
theorem tz_neg {z : Int} (h : z < 0) : (tz z).data.toList = 45 :: decDigits z.natAbs := by rw [tz_list, decide_eq_true h]; rfl
theorem tz_pos {z : Int} (h : 0 ≤ z) : (tz z).data.toList = decDigits z.natAbs := by rw [tz_list, decide_eq_false (by omega)]; rfl
theorem ckL_neg (n : Nat) (h0 : n ≠ 0) (h : nDigits n ≤ 120) : ckL (45 :: decDigits n) = 0 := by
  have hd := decDigits_dig n
  unfold ckL
  rw [noMinus_neg, if_neg, if_neg, if_neg]
  · rw [decDigits_length]; omega
  · rintro ⟨h1, _⟩
    rcases dec_head n n (Nat.le_refl _) with h3 | h3
    · exact h3 h1
    · exact h0 h3
  · have : areDig (decDigits n) = true := by
      unfold areDig
      rw [List.all_eq_true.2 hd, Bool.true_and]
      cases hl : decDigits n with
      | nil => have := decDigits_length n; rw [hl] at this; have := nD_pos n; simp at *; omega
      | cons c l => rfl
    rw [this]; decide
/-- an integer's text passes Check -/
theorem okz_tz {z : Int} (h : z.natAbs < 10 ^ 120) : Okz (tz z) := by
  unfold Okz
  by_cases hz : z < 0
  · rw [tz_neg hz]; exact ckL_neg _ (by omega) (nD_fit h)
  · rw [tz_pos (by omega)]; exact ckL_dec _ (nD_fit h)
/-- .. and spells it -/
theorem vz_tz (z : Int) : vz (tz z) = z := by
  unfold vz
  by_cases hz : z < 0
  · rw [tz_neg hz]
    have hm : intM (45 :: decDigits z.natAbs) = z.natAbs := by unfold intM; rw [noMinus_neg, valL_decDigits]
    have hs : intS (45 :: decDigits z.natAbs) = true := by unfold intS; rw [hm, decide_eq_false (by omega)]; rfl
    rw [hm, hs]
    unfold sgn
    rw [if_pos rfl]; omega
  · rw [tz_pos (by omega)]
    have hn : noMinus (decDigits z.natAbs) = decDigits z.natAbs := noMinus_dig _ (decDigits_dig _)
    have hm : intM (decDigits z.natAbs) = z.natAbs := by unfold intM; rw [hn, valL_decDigits]
    have hs : intS (decDigits z.natAbs) = false := by
      unfold intS
      rcases noMinus_cases (decDigits z.natAbs) with ⟨t, ht, hn2⟩ | ⟨hh, _⟩
      · rw [hn, ht] at hn2; exact absurd (congrArg List.length hn2) (by simp)
      · rw [show ((decDigits z.natAbs).head? == some 45) = false by simpa using hh]; rfl
    rw [hm, hs]
    unfold sgn
    rw [if_neg (by decide)]; omega
theorem tz_inj {a b : Int} (h : tz a = tz b) : a = b := by rw [← vz_tz a, h, vz_tz]
theorem vz_inj {x y : ByteArray} (hx : Okz x) (hy : Okz y) (h : vz x = vz y) : x = y := by rw [← tz_vz hx, h, tz_vz hy]
theorem vz_abs (x : ByteArray) : (vz x).natAbs = intM x.data.toList := by unfold vz sgn; split <;> omega
theorem vz_sign (x : ByteArray) : decide (vz x < 0) = intS x.data.toList := by
  unfold vz sgn
  cases h : intS x.data.toList
  · simp; 
  · have := intS_pos h
    simp; omega
/-- a short text spells a small integer -/
theorem vz_lt {x : ByteArray} (h : Okz x) (k : Nat) (hk : x.size ≤ k) : (vz x).natAbs < 10 ^ k := by
  obtain ⟨h1, h2, _, _⟩ := okz_parts h
  rw [vz_abs]
  have := valL_lt (noMinus x.data.toList) h2
  have hl : (noMinus x.data.toList).length ≤ k := by
    rcases noMinus_cases x.data.toList with ⟨t, ht, hn⟩ | ⟨_, hn⟩
    · have := congrArg List.length ht
      rw [hn]; simp at this ⊢; omega
    · rw [hn]; simpa using hk
  exact Nat.lt_of_lt_of_le this (Nat.pow_le_pow_right (by omega) hl)
end Go.Proofs.YtpbegoflpfdajaaGreatDoor

namespace Go.Proofs.YtpbegoflpfdajaaGreatDoor
open Go.RowKit
open Go.Lib (decDigits nDigits decDigits_length)

/-- a result that fits -/
def resZ (z : Int) : Value := .tuple #[.string (tz z), .int .i64 0]
theorem resT_sgn {n : Nat} {s : Bool} (h : n < 10 ^ 120) (hs : s = true → n ≠ 0) : resT n s = resZ (sgn n s) := by
  refine resT_val n s _ h ?_
  unfold tz sgn
  cases s
  · rw [show (if false = true then -(n : Int) else (n : Int)) = n by simp, show ((n : Nat) : Int).natAbs = n by omega, decide_eq_false (by omega)]
  · have := hs rfl
    rw [show (if true = true then -(n : Int) else (n : Int)) = -(n : Int) by simp, show (-((n : Nat) : Int)).natAbs = n by omega, decide_eq_true (by omega)]
theorem addR_eq (n m : Nat) (s t : Bool) : addR n s m t = if s = t then (n + m, s && !decide (n + m = 0)) else if m ≤ n then (n - m, s && !decide (n - m = 0)) else (m - n, t && !decide (m - n = 0)) := by
  unfold addR
  split
  · rfl
  · split
    · rename_i h; rw [Nat.max_eq_left h, Nat.min_eq_right h]
    · rename_i h; rw [Nat.max_eq_left (by omega), Nat.min_eq_right (by omega)]
theorem and_nz {s : Bool} {n : Nat} (h : (s && !decide (n = 0)) = true) : n ≠ 0 := by
  intro e; subst e; cases s <;> simp at h
theorem sgn_f (n : Nat) : sgn n false = n := rfl
theorem sgn_t (n : Nat) : sgn n true = -(n : Int) := rfl
theorem sgn_nz (n : Nat) (s : Bool) : sgn n (s && !decide (n = 0)) = sgn n s := by
  by_cases h : n = 0
  · subst h; cases s <;> rfl
  · rw [decide_eq_false h]; simp
theorem addR_sgn (n m : Nat) (s t : Bool) : sgn (addR n s m t).1 (addR n s m t).2 = sgn n s + sgn m t ∧ ((addR n s m t).2 = true → (addR n s m t).1 ≠ 0) := by
  rw [addR_eq]
  split
  · rename_i h; subst h
    refine ⟨?_, fun h => and_nz h⟩
    show sgn (n + m) _ = _
    rw [sgn_nz]
    cases s
    · simp only [sgn_f]; omega
    · simp only [sgn_t]; omega
  · rename_i hst
    split
    · rename_i h
      refine ⟨?_, fun h => and_nz h⟩
      show sgn (n - m) _ = _
      rw [sgn_nz]
      cases s <;> cases t
      · exact absurd rfl hst
      · simp only [sgn_f, sgn_t]; omega
      · simp only [sgn_f, sgn_t]; omega
      · exact absurd rfl hst
    · rename_i h
      refine ⟨?_, fun h => and_nz h⟩
      show sgn (m - n) _ = _
      rw [sgn_nz]
      cases s <;> cases t
      · exact absurd rfl hst
      · simp only [sgn_f, sgn_t]; omega
      · simp only [sgn_f, sgn_t]; omega
      · exact absurd rfl hst
theorem sgn_mul (n m : Nat) (s t : Bool) : sgn (n * m) ((s != t) && !decide (n * m = 0)) = sgn n s * sgn m t := by
  rw [sgn_nz]
  cases s <;> cases t
  · simp only [sgn_f, bne_self_eq_false]; exact Int.natCast_mul n m
  · show -((n * m : Nat) : Int) = (n : Int) * -(m : Int); rw [Int.natCast_mul, Int.mul_neg]
  · show -((n * m : Nat) : Int) = -(n : Int) * (m : Int); rw [Int.natCast_mul, Int.neg_mul]
  · show ((n * m : Nat) : Int) = -(n : Int) * -(m : Int); rw [Int.natCast_mul, Int.neg_mul_neg]
theorem sgn_abs (n : Nat) (s : Bool) : (sgn n s).natAbs = n := by cases s <;> simp [sgn]
theorem sgn_neg (m : Nat) (t : Bool) : sgn m (!t && !decide (m = 0)) = -sgn m t := by
  rw [sgn_nz]; cases t
  · rfl
  · show (m : Int) = - -(m : Int); omega

/-- Add, in integers -/
theorem addZ {x y : ByteArray} {z : Int} (hx : Okz x) (hy : Okz y) (hz : vz x + vz y = z) (hl : z.natAbs < 10 ^ 120) (w : World) (hg : Gl w) :
    Calls Tryz.prog 21 #[.string x, .string y] w fun e w' => e = .returned (resZ z) ∧ Below w.heap.size w w' := by
  have h := addR_sgn (intM x.data.toList) (intM y.data.toList) (intS x.data.toList) (intS y.data.toList)
  have h1 : sgn _ _ = z := h.1.trans hz
  have hn : (addR (intM x.data.toList) (intS x.data.toList) (intM y.data.toList) (intS y.data.toList)).1 < 10 ^ 120 := by rw [← h1, sgn_abs] at hl; exact hl
  have c := add_ok x y hx hy w hg
  rw [resT_sgn hn h.2, h1] at c
  exact c
/-- Sub, in integers -/
theorem subZ {x y : ByteArray} {z : Int} (hx : Okz x) (hy : Okz y) (hz : vz x - vz y = z) (hl : z.natAbs < 10 ^ 120) (w : World) (hg : Gl w) :
    Calls Tryz.prog 23 #[.string x, .string y] w fun e w' => e = .returned (resZ z) ∧ Below w.heap.size w w' := by
  have h := addR_sgn (intM x.data.toList) (intM y.data.toList) (intS x.data.toList) (!intS y.data.toList && !decide (intM y.data.toList = 0))
  rw [sgn_neg] at h
  have h1 : sgn _ _ = z := h.1.trans (by rw [← hz]; show vz x + -vz y = _; omega)
  have hn : (addR (intM x.data.toList) (intS x.data.toList) (intM y.data.toList) (!intS y.data.toList && !decide (intM y.data.toList = 0))).1 < 10 ^ 120 := by rw [← h1, sgn_abs] at hl; exact hl
  have c := sub_ok x y hx hy w hg
  unfold subR at c
  rw [resT_sgn hn h.2, h1] at c
  exact c
/-- Mul, in integers -/
theorem mulZ {x y : ByteArray} {z : Int} (hx : Okz x) (hy : Okz y) (hz : vz x * vz y = z) (hl : z.natAbs < 10 ^ 120) (w : World) (hg : Gl w) :
    Calls Tryz.prog 25 #[.string x, .string y] w fun e w' => e = .returned (resZ z) ∧ Below w.heap.size w w' := by
  have h := sgn_mul (intM x.data.toList) (intM y.data.toList) (intS x.data.toList) (intS y.data.toList)
  have h1 : sgn _ _ = z := h.trans hz
  have hn : intM x.data.toList * intM y.data.toList < 10 ^ 120 := by rw [← h1, sgn_abs] at hl; exact hl
  have c := mul_ok x y hx hy w hg
  rw [resT_sgn hn (fun e => and_nz e), h1] at c
  exact c
end Go.Proofs.YtpbegoflpfdajaaGreatDoor

namespace Go.Proofs.YtpbegoflpfdajaaGreatDoor
open Go.RowKit
open Go.Lib (decDigits nDigits decDigits_length)

/-- how two integers compare -/
def icmp (a b : Int) : Int := if a < b then -1 else if b < a then 1 else 0
theorem cmpS_sgn (n m : Nat) (s t : Bool) (hs : s = true → n ≠ 0) (ht : t = true → m ≠ 0) : cmpS n s m t = icmp (sgn n s) (sgn m t) := by
  unfold icmp
  cases s <;> cases t
  · show cmpN n m = _
    unfold cmpN
    rw [sgn_f, sgn_f]
    repeat' split
    all_goals omega
  · show (1 : Int) = _
    have := ht rfl
    rw [sgn_f, sgn_t, if_neg (by omega), if_pos (by omega)]
  · show (-1 : Int) = _
    have := hs rfl
    rw [sgn_f, sgn_t, if_pos (by omega)]
  · show cmpN m n = _
    unfold cmpN
    rw [sgn_t, sgn_t]
    repeat' split
    all_goals omega
/-- Compare, in integers -/
theorem cmpZ {x y : ByteArray} {k : Int} (hx : Okz x) (hy : Okz y) (hk : icmp (vz x) (vz y) = k) (w : World) (hg : Gl w) :
    Calls Tryz.prog 29 #[.string x, .string y] w fun e w' => e = .returned (.tuple #[.int .i64 k, .int .i64 0]) ∧ Below w.heap.size w w' := by
  have c := compare_ok x y hx hy w hg
  rw [cmpS_sgn _ _ _ _ intS_pos intS_pos, show icmp (sgn _ _) (sgn _ _) = k from hk] at c
  exact c

theorem div_sgn (n m : Nat) (s t : Bool) (hm : 0 < m) : sgn n s = sgn m t * sgn (sdQ n s m) (sdS n s m t) + sdR n s m ∧ sdR n s m < m := by
  have h1 : (m : Int) * (n / m : Nat) + (n % m : Nat) = n := by rw [← Int.natCast_mul, ← Int.natCast_add, Nat.div_add_mod]
  have h2 := Nat.mod_lt n hm
  unfold sdS
  rw [sgn_nz]
  unfold sdQ sdR
  generalize hq : n / m = q at *
  generalize hr : n % m = r at *
  have h3 : (m : Int) * ((q + 1 : Nat) : Int) = (m : Int) * q + m := by rw [Int.natCast_add, Int.mul_add]; simp
  cases s
  · rw [if_neg (by simp), if_neg (by simp)]
    refine ⟨?_, h2⟩
    cases t
    · show (n : Int) = (m : Int) * q + r; omega
    · show (n : Int) = -(m : Int) * -(q : Int) + r; rw [Int.neg_mul_neg]; omega
  · by_cases h0 : r = 0
    · rw [if_neg (by simp [h0]), if_neg (by simp [h0])]
      refine ⟨?_, h2⟩
      cases t
      · show -(n : Int) = (m : Int) * -(q : Int) + r; rw [Int.mul_neg]; omega
      · show -(n : Int) = -(m : Int) * (q : Int) + r; rw [Int.neg_mul]; omega
    · rw [if_pos ⟨rfl, h0⟩, if_pos ⟨rfl, h0⟩]
      refine ⟨?_, by omega⟩
      cases t
      · show -(n : Int) = (m : Int) * -((q + 1 : Nat) : Int) + ((m - r : Nat) : Int); rw [Int.mul_neg, h3]; omega
      · show -(n : Int) = -(m : Int) * ((q + 1 : Nat) : Int) + ((m - r : Nat) : Int); rw [Int.neg_mul, h3]; omega
theorem sg_tz (n : Nat) (s : Bool) (h : s = true → n ≠ 0) : (⟨(sgText n s).toArray⟩ : ByteArray) = tz (sgn n s) := by
  unfold tz sgn
  cases s
  · rw [show (if false = true then -(n : Int) else (n : Int)) = n by simp, show ((n : Nat) : Int).natAbs = n by omega, decide_eq_false (by omega)]
  · have := h rfl
    rw [show (if true = true then -(n : Int) else (n : Int)) = -(n : Int) by simp, show (-((n : Nat) : Int)).natAbs = n by omega, decide_eq_true (by omega)]
/-- DivMod, in integers -/
theorem divZ {x y : ByteArray} (hx : Okz x) (hy : Okz y) (h0 : vz y ≠ 0) (hx2 : (vz x).natAbs < 10 ^ 60) (hy2 : (vz y).natAbs < 10 ^ 60) :
    ∃ q r : Int, vz x = vz y * q + r ∧ 0 ≤ r ∧ r < (vz y).natAbs ∧ q.natAbs ≤ (vz x).natAbs + 1 ∧ ∀ w, Gl w → Calls Tryz.prog 27 #[.string x, .string y] w fun e w' => e = .returned (.tuple #[.string (tz q), .string (tz r), .int .i64 0]) ∧ Below w.heap.size w w' := by
  have hm : 0 < intM y.data.toList := by have := vz_abs y; omega
  have h := div_sgn (intM x.data.toList) (intM y.data.toList) (intS x.data.toList) (intS y.data.toList) hm
  have hq : sdQ (intM x.data.toList) (intS x.data.toList) (intM y.data.toList) ≤ intM x.data.toList + 1 := by
    have := Nat.div_le_self (intM x.data.toList) (intM y.data.toList)
    unfold sdQ; split <;> omega
  have hp : 10 ^ 60 + 1 < 10 ^ 120 := by decide
  have ax := vz_abs x
  have ay := vz_abs y
  have f1 := fitsV_fit (n := sdQ (intM x.data.toList) (intS x.data.toList) (intM y.data.toList)) (by omega)
  have f2 := fitsV_fit (n := sdR (intM x.data.toList) (intS x.data.toList) (intM y.data.toList)) (by omega)
  refine ⟨sgn (sdQ (intM x.data.toList) (intS x.data.toList) (intM y.data.toList)) (sdS (intM x.data.toList) (intS x.data.toList) (intM y.data.toList) (intS y.data.toList)), sdR (intM x.data.toList) (intS x.data.toList) (intM y.data.toList), h.1, by omega, by omega, by rw [sgn_abs]; omega, fun w hg => ?_⟩
  have c := divMod_ok x y w hg hx hy (by omega) f1 f2
  rw [sg_tz _ (sdS _ _ _ _) (fun e => and_nz e), sg_tz _ false (fun e => by cases e)] at c
  exact c
/-- TrimPrefix of the sign -/
theorem trimZ {x : ByteArray} (hx : Okz x) (w : World) : Calls Tryz.prog 60 #[.string x, .string ⟨#[45]⟩] w fun e w' => e = .returned (.string (tz ((vz x).natAbs : Int))) ∧ w' = w := by
  have c := Tryz.strings_TrimPrefix x ⟨#[45]⟩ w
  rw [show (⟨(Lib.trimPrefix x.data.toList (⟨#[45]⟩ : ByteArray).data.toList).toArray⟩ : ByteArray) = tz ((vz x).natAbs : Int) from ?_] at c
  · exact c
  apply ByteArray.ext
  apply Array.toList_inj.1
  show noMinus x.data.toList = (tz ((vz x).natAbs : Int)).data.toList
  rw [tz_pos (by omega), show ((vz x).natAbs : Int).natAbs = (vz x).natAbs by omega]
  conv => lhs; rw [← tz_vz hx]
  by_cases h : vz x < 0
  · rw [tz_neg h, noMinus_neg]
  · rw [tz_pos (by omega)]; exact noMinus_dig _ (decDigits_dig _)
theorem tz_zero : tz 0 = ⟨#[48]⟩ := by
  unfold tz sgText
  rw [decide_eq_false (by omega), if_neg (by decide), show (0 : Int).natAbs = 0 by rfl, Lib.decDigits_one (by omega)]
  rfl
theorem okz_zero : Okz ⟨#[48]⟩ := by rw [← tz_zero]; exact okz_tz (by decide)
theorem vz_zero : vz ⟨#[48]⟩ = 0 := by rw [← tz_zero]; exact vz_tz 0
end Go.Proofs.YtpbegoflpfdajaaGreatDoor

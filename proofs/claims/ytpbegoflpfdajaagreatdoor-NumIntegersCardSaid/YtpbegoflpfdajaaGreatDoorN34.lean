/- WHAT IS PROVED: contracts of functions of the numbers package and laws for them, used by the last text of this claim. CONDITIONS: stated at each theorem. -/
import Derived.Test.YtpbegoflpfdajaaGreatDoorN31
import Derived.Test.YtpbegoflpfdajaaGreatDoorN10
namespace Go.Proofs.YtpbegoflpfdajaaGreatDoor
section
open Go.RowKit
open Go.Lib (decDigits nDigits decDigits_length)
def sgn (n : Nat) (s : Bool) : Int := if s then -(n : Int) else n
def vz (x : ByteArray) : Int := sgn (intM x.data.toList) (intS x.data.toList)
def tz (z : Int) : ByteArray := ⟨(sgText z.natAbs (decide (z < 0))).toArray⟩
def Okz (x : ByteArray) : Prop := ckL x.data.toList = 0
theorem valL_pos : ∀ (l : List UInt8) (c : UInt8) (t : List UInt8), l = c :: t -> 49 <= c.toNat -> 0 < valL l
  | l, c, t, e, h => by
    subst e
    unfold valL
    rw [List.foldl_cons]
    generalize hv : 0 * 10 + (c.toNat - 48) = v
    have h0 : 0 < v := by omega
    clear hv h
    induction t generalizing v with
    | nil => exact h0
    | cons d t ih => rw [List.foldl_cons]; exact ih _ (by omega)
theorem dec_val_aux : ∀ (k : Nat) (l : List UInt8), l.length <= k -> 0 < l.length -> (∀ c ∈ l, isDig c = true) -> (l.head? = some 48 -> l = [48]) -> decDigits (valL l) = l
  | 0, l, h1, h2, _, _ => by omega
  | k + 1, l, h1, h2, hd, hh => by
    obtain ⟨t, c, rfl⟩ : ∃ t c, l = t ++ [c] := ⟨l.dropLast, l.getLast (by intro e; rw [e] at h2; simp at h2), (List.dropLast_concat_getLast _).symm⟩
    have hc := hd c (by simp)
    simp only [isDig, decide_eq_true_eq] at hc
    rw [valL_snoc]
    cases t with
    | nil =>
      rw [show valL [] = 0 from rfl, Nat.zero_mul, Nat.zero_add, Lib.decDigits_one (by omega)]
      rw [show 48 + (c.toNat - 48) = c.toNat by omega]
      simp
    | cons d t =>
      have hdd := hd d (by simp)
      simp only [isDig, decide_eq_true_eq] at hdd
      have hne : d ≠ 48 := by
        intro e
        subst e
        have := hh (by simp)
        simp at this
      have h49 : 49 <= d.toNat := by
        have : d.toNat ≠ 48 := fun e => hne (UInt8.toNat_inj.1 (by rw [e]; rfl))
        omega
      have hp := valL_pos (d :: t) d t rfl h49
      have hi := dec_val_aux k (d :: t) (by simp at h1 ⊢; omega) (by simp) (fun x hx => hd x (by simp at hx ⊢; rcases hx with h | h <;> simp [h])) (fun e => absurd (by simpa using e) hne)
      rw [dec_step _ (by omega), show (valL (d :: t) * 10 + (c.toNat - 48)) / 10 = valL (d :: t) by omega, show (valL (d :: t) * 10 + (c.toNat - 48)) % 10 = c.toNat - 48 by omega, hi, show 48 + (c.toNat - 48) = c.toNat by omega]
      simp
theorem dec_val (l : List UInt8) (h2 : 0 < l.length) (hd : ∀ c ∈ l, isDig c = true) (hh : l.head? = some 48 -> l = [48]) : decDigits (valL l) = l :=
  dec_val_aux l.length l (Nat.le_refl _) h2 hd hh
theorem okz_parts {l : List UInt8} (h : ckL l = 0) : 0 < (noMinus l).length /\ (∀ c ∈ noMinus l, isDig c = true) /\ ((noMinus l).head? = some 48 -> l = [48]) /\ (noMinus l).length <= 120 := by
  obtain ⟨h1, h2, h3⟩ := ck_dig l h
  refine ⟨h2, fun c hc => ?_, fun hh => ?_, h3⟩
  · obtain ⟨i, hi, rfl⟩ := List.getElem_of_mem hc
    simp only [isDig, decide_eq_true_eq]
    exact h1.2 i hi
  · unfold ckL at h
    split at h
    · omega
    · split at h
      · omega
      · rename_i hn
        exact Classical.byContradiction fun hl => hn ⟨hh, hl⟩
theorem tz_vz {x : ByteArray} (h : Okz x) : tz (vz x) = x := by
  obtain ⟨h1, h2, h3, _⟩ := okz_parts h
  apply ByteArray.ext
  apply Array.toList_inj.1
  show (sgText (vz x).natAbs (decide (vz x < 0))) = x.data.toList
  unfold vz
  generalize x.data.toList = l at *
  rcases noMinus_cases l with ⟨t, ht, hn⟩ | ⟨hh, hn⟩
  · rw [hn] at h1 h2 h3
    have hz : intM l ≠ 0 := by
      unfold intM
      rw [hn]
      cases t with
      | nil => simp at h1
      | cons d t =>
        have hdd := h2 d (by simp)
        simp only [isDig, decide_eq_true_eq] at hdd
        have hne : d ≠ 48 := by
          intro e
          have := h3 (by rw [e]; rfl)
          rw [ht] at this
          simp at this
        have h49 : 49 <= d.toNat := by
          have : d.toNat ≠ 48 := fun e => hne (UInt8.toNat_inj.1 (by rw [e]; rfl))
          omega
        have := valL_pos (d :: t) d t rfl h49
        omega
    have hs : intS l = true := by unfold intS; rw [ht] at hz ⊢; simp [hz]
    have hd := dec_val t h1 h2 (fun e => by have := h3 e; rw [ht] at this; simp at this)
    have hm : intM l = valL t := by unfold intM; rw [hn]
    rw [hs, hm]
    unfold sgn
    rw [if_pos rfl, decide_eq_true (by omega)]
    unfold sgText
    rw [if_pos rfl, show (-(valL t : Int)).natAbs = valL t by omega, hd, ht]
  · rw [hn] at h1 h2 h3
    have hs : intS l = false := by unfold intS; rw [show (l.head? == some 45) = false by simpa using hh]; rfl
    have hd := dec_val l h1 h2 h3
    have hm : intM l = valL l := by unfold intM; rw [hn]
    rw [hs, hm]
    unfold sgn
    rw [if_neg (by decide), decide_eq_false (by omega)]
    unfold sgText
    rw [if_neg (by decide), show ((valL l : Nat) : Int).natAbs = valL l by omega, hd]
theorem nD_fit {n : Nat} (h : n < 10 ^ 120) : nDigits n <= 120 := nD_le 119 n h
theorem noMinus_neg (l : List UInt8) : noMinus (45 :: l) = l := by
  rcases noMinus_cases (45 :: l) with ⟨t, ht, hn⟩ | ⟨hh, _⟩
  · rw [hn]; exact (List.cons.inj ht).2.symm
  · exact absurd rfl hh
theorem tz_list (z : Int) : (tz z).data.toList = sgText z.natAbs (decide (z < 0)) := rfl
theorem tz_neg {z : Int} (h : z < 0) : (tz z).data.toList = 45 :: decDigits z.natAbs := by rw [tz_list, decide_eq_true h]; rfl
theorem tz_pos {z : Int} (h : 0 <= z) : (tz z).data.toList = decDigits z.natAbs := by rw [tz_list, decide_eq_false (by omega)]; rfl
theorem ckL_neg (n : Nat) (h0 : n ≠ 0) (h : nDigits n <= 120) : ckL (45 :: decDigits n) = 0 := by
  have hd := decDigits_dig n
  unfold ckL
  rw [noMinus_neg, if_neg, if_neg, if_neg]
  · rw [decDigits_length]; omega
  · rintro ⟨h1, _⟩
    rcases dec_head n n (Nat.le_refl _) with h3 | h3
    · exact h3 h1
    · exact h0 h3
  · have : areDig (decDigits n) = true := by
      unfold areDig
      rw [List.all_eq_true.2 hd, Bool.true_and]
      cases hl : decDigits n with
      | nil => have := decDigits_length n; rw [hl] at this; have := nD_pos n; simp at *; omega
      | cons c l => rfl
    rw [this]; decide
theorem okz_tz {z : Int} (h : z.natAbs < 10 ^ 120) : Okz (tz z) := by
  unfold Okz
  by_cases hz : z < 0
  · rw [tz_neg hz]; exact ckL_neg _ (by omega) (nD_fit h)
  · rw [tz_pos (by omega)]; exact ckL_dec _ (nD_fit h)
theorem vz_abs (x : ByteArray) : (vz x).natAbs = intM x.data.toList := by unfold vz sgn; split <;> omega
theorem vz_sign (x : ByteArray) : decide (vz x < 0) = intS x.data.toList := by
  unfold vz sgn
  cases h : intS x.data.toList
  · simp; 
  · have := intS_pos h
    simp; omega
end
section
open Go.RowKit
open Go.Lib (decDigits nDigits decDigits_length)
def resZ (z : Int) : Value := .tuple #[.string (tz z), .int .i64 0]
theorem resT_sgn {n : Nat} {s : Bool} (h : n < 10 ^ 120) (hs : s = true -> n ≠ 0) : resT n s = resZ (sgn n s) := by
  refine resT_val n s _ h ?_
  unfold tz sgn
  cases s
  · rw [show (if false = true then -(n : Int) else (n : Int)) = n by simp, show ((n : Nat) : Int).natAbs = n by omega, decide_eq_false (by omega)]
  · have := hs rfl
    rw [show (if true = true then -(n : Int) else (n : Int)) = -(n : Int) by simp, show (-((n : Nat) : Int)).natAbs = n by omega, decide_eq_true (by omega)]
theorem addR_eq (n m : Nat) (s t : Bool) : addR n s m t = if s = t then (n + m, s && !decide (n + m = 0)) else if m <= n then (n - m, s && !decide (n - m = 0)) else (m - n, t && !decide (m - n = 0)) := by
  unfold addR
  split
  · rfl
  · split
    · rename_i h; rw [Nat.max_eq_left h, Nat.min_eq_right h]
    · rename_i h; rw [Nat.max_eq_left (by omega), Nat.min_eq_right (by omega)]
theorem and_nz {s : Bool} {n : Nat} (h : (s && !decide (n = 0)) = true) : n ≠ 0 := by
  intro e; subst e; cases s <;> simp at h
theorem sgn_f (n : Nat) : sgn n false = n := rfl
theorem sgn_t (n : Nat) : sgn n true = -(n : Int) := rfl
theorem sgn_nz (n : Nat) (s : Bool) : sgn n (s && !decide (n = 0)) = sgn n s := by
  by_cases h : n = 0
  · subst h; cases s <;> rfl
  · rw [decide_eq_false h]; simp
theorem addR_sgn (n m : Nat) (s t : Bool) : sgn (addR n s m t).1 (addR n s m t).2 = sgn n s + sgn m t /\ ((addR n s m t).2 = true -> (addR n s m t).1 ≠ 0) := by
  rw [addR_eq]
  split
  · rename_i h; subst h
    refine ⟨?_, fun h => and_nz h⟩
    show sgn (n + m) _ = _
    rw [sgn_nz]
    cases s
    · simp only [sgn_f]; omega
    · simp only [sgn_t]; omega
  · rename_i hst
    split
    · rename_i h
      refine ⟨?_, fun h => and_nz h⟩
      show sgn (n - m) _ = _
      rw [sgn_nz]
      cases s <;> cases t
      · exact absurd rfl hst
      · simp only [sgn_f, sgn_t]; omega
      · simp only [sgn_f, sgn_t]; omega
      · exact absurd rfl hst
    · rename_i h
      refine ⟨?_, fun h => and_nz h⟩
      show sgn (m - n) _ = _
      rw [sgn_nz]
      cases s <;> cases t
      · exact absurd rfl hst
      · simp only [sgn_f, sgn_t]; omega
      · simp only [sgn_f, sgn_t]; omega
      · exact absurd rfl hst
theorem sgn_mul (n m : Nat) (s t : Bool) : sgn (n * m) ((s != t) && !decide (n * m = 0)) = sgn n s * sgn m t := by
  rw [sgn_nz]
  cases s <;> cases t
  · simp only [sgn_f, bne_self_eq_false]; exact Int.natCast_mul n m
  · show -((n * m : Nat) : Int) = (n : Int) * -(m : Int); rw [Int.natCast_mul, Int.mul_neg]
  · show -((n * m : Nat) : Int) = -(n : Int) * (m : Int); rw [Int.natCast_mul, Int.neg_mul]
  · show ((n * m : Nat) : Int) = -(n : Int) * -(m : Int); rw [Int.natCast_mul, Int.neg_mul_neg]
theorem sgn_abs (n : Nat) (s : Bool) : (sgn n s).natAbs = n := by cases s <;> simp [sgn]
theorem sgn_neg (m : Nat) (t : Bool) : sgn m (!t && !decide (m = 0)) = -sgn m t := by
  rw [sgn_nz]; cases t
  · rfl
  · show (m : Int) = - -(m : Int); omega
end
section
open Go.RowKit
open Go.Lib (decDigits nDigits decDigits_length)
def icmp (a b : Int) : Int := if a < b then -1 else if b < a then 1 else 0
theorem cmpS_sgn (n m : Nat) (s t : Bool) (hs : s = true -> n ≠ 0) (ht : t = true -> m ≠ 0) : cmpS n s m t = icmp (sgn n s) (sgn m t) := by
  unfold icmp
  cases s <;> cases t
  · show cmpN n m = _
    unfold cmpN
    rw [sgn_f, sgn_f]
    repeat' split
    all_goals omega
  · show (1 : Int) = _
    have := ht rfl
    rw [sgn_f, sgn_t, if_neg (by omega), if_pos (by omega)]
  · show (-1 : Int) = _
    have := hs rfl
    rw [sgn_f, sgn_t, if_pos (by omega)]
  · show cmpN m n = _
    unfold cmpN
    rw [sgn_t, sgn_t]
    repeat' split
    all_goals omega
theorem cmpZ {x y : ByteArray} {k : Int} (hx : Okz x) (hy : Okz y) (hk : icmp (vz x) (vz y) = k) (w : World) (hg : Gl w) :
    Calls Tryz.prog 29 #[.string x, .string y] w fun e w' => e = .returned (.tuple #[.int .i64 k, .int .i64 0]) /\ Below w.heap.size w w' := by
  have c := compare_ok x y hx hy w hg
  rw [cmpS_sgn _ _ _ _ intS_pos intS_pos, show icmp (sgn _ _) (sgn _ _) = k from hk] at c
  exact c
theorem div_sgn (n m : Nat) (s t : Bool) (hm : 0 < m) : sgn n s = sgn m t * sgn (sdQ n s m) (sdS n s m t) + sdR n s m /\ sdR n s m < m := by
  have h1 : (m : Int) * (n / m : Nat) + (n % m : Nat) = n := by rw [<- Int.natCast_mul, <- Int.natCast_add, Nat.div_add_mod]
  have h2 := Nat.mod_lt n hm
  unfold sdS
  rw [sgn_nz]
  unfold sdQ sdR
  generalize hq : n / m = q at *
  generalize hr : n % m = r at *
  have h3 : (m : Int) * ((q + 1 : Nat) : Int) = (m : Int) * q + m := by rw [Int.natCast_add, Int.mul_add]; simp
  cases s
  · rw [if_neg (by simp), if_neg (by simp)]
    refine ⟨?_, h2⟩
    cases t
    · show (n : Int) = (m : Int) * q + r; omega
    · show (n : Int) = -(m : Int) * -(q : Int) + r; rw [Int.neg_mul_neg]; omega
  · by_cases h0 : r = 0
    · rw [if_neg (by simp [h0]), if_neg (by simp [h0])]
      refine ⟨?_, h2⟩
      cases t
      · show -(n : Int) = (m : Int) * -(q : Int) + r; rw [Int.mul_neg]; omega
      · show -(n : Int) = -(m : Int) * (q : Int) + r; rw [Int.neg_mul]; omega
    · rw [if_pos ⟨rfl, h0⟩, if_pos ⟨rfl, h0⟩]
      refine ⟨?_, by omega⟩
      cases t
      · show -(n : Int) = (m : Int) * -((q + 1 : Nat) : Int) + ((m - r : Nat) : Int); rw [Int.mul_neg, h3]; omega
      · show -(n : Int) = -(m : Int) * ((q + 1 : Nat) : Int) + ((m - r : Nat) : Int); rw [Int.neg_mul, h3]; omega
theorem sg_tz (n : Nat) (s : Bool) (h : s = true -> n ≠ 0) : (⟨(sgText n s).toArray⟩ : ByteArray) = tz (sgn n s) := by
  unfold tz sgn
  cases s
  · rw [show (if false = true then -(n : Int) else (n : Int)) = n by simp, show ((n : Nat) : Int).natAbs = n by omega, decide_eq_false (by omega)]
  · have := h rfl
    rw [show (if true = true then -(n : Int) else (n : Int)) = -(n : Int) by simp, show (-((n : Nat) : Int)).natAbs = n by omega, decide_eq_true (by omega)]
end
section
open Go.RowKit
open Go.Lib (decDigits nDigits decDigits_length)
theorem integers_err (f : Nat) (x y : ByteArray) (h1 : ckL2 x y ≠ 0) (w : World) (hg : Gl w) :
    Calls Tryz.prog 77 #[.string x, .string y, .func (.func f) #[] #[]] w fun e w' => e = .returned (errT (ckL2 x y)) /\ Below w.heap.size w w' := by
  have cc := checks_two x y w hg
  rw [show firstE [ckL x.data.toList, ckL y.data.toList] = ckL2 x y from rfl] at cc
  obtain ⟨E, hE⟩ : ∃ E, ckL2 x y = E := ⟨_, rfl⟩
  rw [hE] at cc h1 ⊢
  have td : (E != 0) = true := by simpa using h1
  have Cc := Lib.hid cc
  clear cc hE h1 hg
  go_enter Tryz.func77, Tryz.ntmps77
  go_wp2_with (first
    | (go_at_call 85; (with_reducible refine (Cc.out).mono ?_); rintro e w1 ⟨rfl, hb1⟩; have HB1 := Lib.hid (below2 hb1); clear hb1))
  go_ret2
  exact ⟨rfl, HB1.out⟩
theorem add_of (x y : ByteArray) (w : World) (R : Value) (hR : ∃ a b, R = .tuple #[a, b]) (hc : Calls Tryz.prog 77 #[.string x, .string y, .func (.func 78) #[] #[]] w fun e w' => e = .returned R /\ Below w.heap.size w w') :
    Calls Tryz.prog 21 #[.string x, .string y] w fun e w' => e = .returned R /\ Below w.heap.size w w' := by
  obtain ⟨ra, rb, rfl⟩ := hR
  have C := Lib.hid hc; clear hc
  go_enter Tryz.func21, Tryz.ntmps21
  go_wp2_with (go_at_call 77; (with_reducible refine (C.out).mono ?_); rintro e w1 ⟨rfl, hb1⟩)
  go_ret2
  exact ⟨rfl, hb1⟩
theorem sub_of (x y : ByteArray) (w : World) (R : Value) (hR : ∃ a b, R = .tuple #[a, b]) (hc : Calls Tryz.prog 77 #[.string x, .string y, .func (.func 81) #[] #[]] w fun e w' => e = .returned R /\ Below w.heap.size w w') :
    Calls Tryz.prog 23 #[.string x, .string y] w fun e w' => e = .returned R /\ Below w.heap.size w w' := by
  obtain ⟨ra, rb, rfl⟩ := hR
  have C := Lib.hid hc; clear hc
  go_enter Tryz.func23, Tryz.ntmps23
  go_wp2_with (go_at_call 77; (with_reducible refine (C.out).mono ?_); rintro e w1 ⟨rfl, hb1⟩)
  go_ret2
  exact ⟨rfl, hb1⟩
theorem mul_of (x y : ByteArray) (w : World) (R : Value) (hR : ∃ a b, R = .tuple #[a, b]) (hc : Calls Tryz.prog 77 #[.string x, .string y, .func (.func 83) #[] #[]] w fun e w' => e = .returned R /\ Below w.heap.size w w') :
    Calls Tryz.prog 25 #[.string x, .string y] w fun e w' => e = .returned R /\ Below w.heap.size w w' := by
  obtain ⟨ra, rb, rfl⟩ := hR
  have C := Lib.hid hc; clear hc
  go_enter Tryz.func25, Tryz.ntmps25
  go_wp2_with (go_at_call 77; (with_reducible refine (C.out).mono ?_); rintro e w1 ⟨rfl, hb1⟩)
  go_ret2
  exact ⟨rfl, hb1⟩
def resI (z : Int) : Value := if z.natAbs < 10 ^ 120 then resZ z else errT 4
theorem fitsV_big {n : Nat} (h : ¬ n < 10 ^ 120) : digN n > 120 /\ fitsV n = 4 := by
  have h1 : 120 < digN n := by
    unfold digN
    rw [if_neg (by intro e; rw [e] at h; exact h (by decide))]
    rcases Nat.lt_or_ge 120 (nDigits n) with h2 | h2
    · exact h2
    · exact absurd (nD_lt 120 n h2) h
  exact ⟨h1, by unfold fitsV; rw [if_pos h1]⟩
theorem resT_int {n : Nat} {s : Bool} (hs : s = true -> n ≠ 0) : resT n s = resI (sgn n s) := by
  unfold resI
  rw [sgn_abs]
  by_cases h : n < 10 ^ 120
  · rw [if_pos h]; exact resT_sgn h hs
  · rw [if_neg h]
    obtain ⟨h1, h2⟩ := fitsV_big h
    unfold resT errT
    rw [if_neg (by omega), h2]
theorem resI_two (z : Int) : ∃ a b, resI z = .tuple #[a, b] := by
  unfold resI; split
  · exact ⟨_, _, rfl⟩
  · exact ⟨_, _, rfl⟩
def resI2 (x y : ByteArray) (z : Int) : Value := if ckL2 x y = 0 then resI z else errT (ckL2 x y)
theorem ckL2_zero {x y : ByteArray} (h : ckL2 x y = 0) : Okz x /\ Okz y := firstE_two h
theorem addI_any (x y : ByteArray) (w : World) (hg : Gl w) : Calls Tryz.prog 21 #[.string x, .string y] w fun e w' => e = .returned (resI2 x y (vz x + vz y)) /\ Below w.heap.size w w' := by
  unfold resI2
  by_cases h : ckL2 x y = 0
  · rw [if_pos h]
    obtain ⟨hx, hy⟩ := ckL2_zero h
    have a := addR_sgn (intM x.data.toList) (intM y.data.toList) (intS x.data.toList) (intS y.data.toList)
    have c := add_ok x y hx hy w hg
    rw [resT_int a.2, a.1] at c
    exact c
  · rw [if_neg h]; exact add_of x y w _ ⟨_, _, rfl⟩ (integers_err 78 x y h w hg)
theorem subI_any (x y : ByteArray) (w : World) (hg : Gl w) : Calls Tryz.prog 23 #[.string x, .string y] w fun e w' => e = .returned (resI2 x y (vz x - vz y)) /\ Below w.heap.size w w' := by
  unfold resI2
  by_cases h : ckL2 x y = 0
  · rw [if_pos h]
    obtain ⟨hx, hy⟩ := ckL2_zero h
    have a := addR_sgn (intM x.data.toList) (intM y.data.toList) (intS x.data.toList) (!intS y.data.toList && !decide (intM y.data.toList = 0))
    have c := sub_ok x y hx hy w hg
    unfold subR at c
    rw [resT_int a.2, a.1, sgn_neg, <- Int.sub_eq_add_neg] at c
    exact c
  · rw [if_neg h]; exact sub_of x y w _ ⟨_, _, rfl⟩ (integers_err 81 x y h w hg)
theorem mulI_any (x y : ByteArray) (w : World) (hg : Gl w) : Calls Tryz.prog 25 #[.string x, .string y] w fun e w' => e = .returned (resI2 x y (vz x * vz y)) /\ Below w.heap.size w w' := by
  unfold resI2
  by_cases h : ckL2 x y = 0
  · rw [if_pos h]
    obtain ⟨hx, hy⟩ := ckL2_zero h
    have c := mul_ok x y hx hy w hg
    rw [resT_int (fun e => and_nz e), sgn_mul] at c
    exact c
  · rw [if_neg h]; exact mul_of x y w _ ⟨_, _, rfl⟩ (integers_err 83 x y h w hg)
theorem neg_err (x : ByteArray) (h : ckL x.data.toList ≠ 0) (w : World) : Calls Tryz.prog 18 #[.string x] w fun e w' => e = .returned (errT (ckL x.data.toList)) /\ Below w.heap.size w w' := by
  have cc := check_any x w
  obtain ⟨E, hE⟩ : ∃ E, ckL x.data.toList = E := ⟨_, rfl⟩
  rw [hE] at cc h ⊢
  have td : (E != 0) = true := by simpa using h
  have Cc := Lib.hid cc
  clear cc hE h
  go_enter Tryz.func18, Tryz.ntmps18
  go_wp2_with (first
    | (go_at_call 12; (with_reducible refine (Cc.out).mono ?_); rintro e w1 ⟨rfl, hb1⟩; have HB1 := Lib.hid hb1; clear hb1))
  go_ret2
  exact ⟨rfl, HB1.out⟩
theorem negI_any (x : ByteArray) (w : World) (hg : Gl w) : Calls Tryz.prog 18 #[.string x] w fun e w' => e = .returned (if ckL x.data.toList = 0 then resI (-vz x) else errT (ckL x.data.toList)) /\ Below w.heap.size w w' := by
  by_cases h : ckL x.data.toList = 0
  · rw [if_pos h]
    have c := neg_ok x h w hg
    rw [resT_int (fun e => and_nz e), sgn_neg] at c
    exact c
  · rw [if_neg h]; exact neg_err x h w
theorem compare_err (x y : ByteArray) (h1 : ckL2 x y ≠ 0) (w : World) (hg : Gl w) :
    Calls Tryz.prog 29 #[.string x, .string y] w fun e w' => e = .returned (.tuple #[.int .i64 0, .int .i64 (ckL2 x y)]) /\ Below w.heap.size w w' := by
  have cc := checks_two x y w hg
  rw [show firstE [ckL x.data.toList, ckL y.data.toList] = ckL2 x y from rfl] at cc
  obtain ⟨E, hE⟩ : ∃ E, ckL2 x y = E := ⟨_, rfl⟩
  rw [hE] at cc h1 ⊢
  have td : (E != 0) = true := by simpa using h1
  have Cc := Lib.hid cc
  clear cc hE h1 hg
  go_enter Tryz.func29, Tryz.ntmps29
  go_wp2_with (first
    | (go_at_call 85; (with_reducible refine (Cc.out).mono ?_); rintro e w1 ⟨rfl, hb1⟩; have HB1 := Lib.hid (below2 hb1); clear hb1))
  go_ret2
  exact ⟨rfl, HB1.out⟩
theorem compareI_any (x y : ByteArray) (w : World) (hg : Gl w) : Calls Tryz.prog 29 #[.string x, .string y] w fun e w' => e = .returned (if ckL2 x y = 0 then .tuple #[.int .i64 (icmp (vz x) (vz y)), .int .i64 0] else .tuple #[.int .i64 0, .int .i64 (ckL2 x y)]) /\ Below w.heap.size w w' := by
  by_cases h : ckL2 x y = 0
  · rw [if_pos h]
    obtain ⟨hx, hy⟩ := ckL2_zero h
    exact cmpZ hx hy rfl w hg
  · rw [if_neg h]; exact compare_err x y h w hg
end
section
open Go.RowKit
open Go.Lib (decDigits nDigits decDigits_length)
theorem gcd_of (x y : ByteArray) (w : World) (R : Value) (hR : ∃ a b, R = .tuple #[a, b]) (hc : Calls Tryz.prog 77 #[.string x, .string y, .func (.func 95) #[] #[]] w fun e w' => e = .returned R /\ Below w.heap.size w w') :
    Calls Tryz.prog 33 #[.string x, .string y] w fun e w' => e = .returned R /\ Below w.heap.size w w' := by
  obtain ⟨ra, rb, rfl⟩ := hR
  have C := Lib.hid hc; clear hc
  go_enter Tryz.func33, Tryz.ntmps33
  go_wp2_with (go_at_call 77; (with_reducible refine (C.out).mono ?_); rintro e w1 ⟨rfl, hb1⟩)
  go_ret2
  exact ⟨rfl, hb1⟩
theorem gcdI_any (x y : ByteArray) (w : World) (hg : Gl w) : Calls Tryz.prog 33 #[.string x, .string y] w fun e w' => e = .returned (resI2 x y (Nat.gcd (vz x).natAbs (vz y).natAbs : Nat)) /\ Below w.heap.size w w' := by
  unfold resI2
  by_cases h : ckL2 x y = 0
  · rw [if_pos h]
    obtain ⟨hx, hy⟩ := ckL2_zero h
    have c := gcd_ok x y hx hy w hg
    rw [resT_int (fun e => by cases e), sgn_f, <- vz_abs, <- vz_abs] at c
    exact c
  · rw [if_neg h]; exact gcd_of x y w _ ⟨_, _, rfl⟩ (integers_err 95 x y h w hg)
theorem okz_lim {x : ByteArray} (h : Okz x) : (vz x).natAbs < 10 ^ 120 := by
  obtain ⟨h1, h2, _, h4⟩ := okz_parts h
  rw [vz_abs]
  exact Nat.lt_of_lt_of_le (valL_lt (noMinus x.data.toList) h2) (Nat.pow_le_pow_right (by omega) h4)
theorem sdQ_le (n m : Nat) (s : Bool) (hm : 0 < m) (h : n < 10 ^ 120) : sdQ n s m < 10 ^ 120 := by
  unfold sdQ
  split
  · rename_i hs
    have h1 := Nat.div_add_mod n m
    have : n / m + 1 <= n := by
      have h2 : n / m <= m * (n / m) := Nat.le_mul_of_pos_left _ hm
      omega
    omega
  · have := Nat.div_le_self n m; omega
def resD (x y : ByteArray) (q r : Int) : Value := if ckL2 x y ≠ 0 then .tuple #[.string ⟨#[]⟩, .string ⟨#[]⟩, .int .i64 (ckL2 x y)] else if vz y = 0 then .tuple #[.string ⟨#[]⟩, .string ⟨#[]⟩, .int .i64 30] else .tuple #[.string (tz q), .string (tz r), .int .i64 0]
theorem divModI_any (x y : ByteArray) : ∃ q r : Int, (ckL2 x y = 0 -> vz y ≠ 0 -> vz x = vz y * q + r /\ 0 <= r /\ r < (vz y).natAbs) /\ ∀ w, Gl w -> Calls Tryz.prog 27 #[.string x, .string y] w fun e w' => e = .returned (resD x y q r) /\ Below w.heap.size w w' := by
  unfold resD
  by_cases h : ckL2 x y = 0
  · obtain ⟨hx, hy⟩ := ckL2_zero h
    by_cases h0 : vz y = 0
    · refine ⟨0, 0, fun _ e => absurd h0 e, fun w hg => ?_⟩
      rw [if_neg (by simpa using h), if_pos h0]
      exact divMod_zero x y w hg hx hy (by have := vz_abs y; omega)
    · have hm : 0 < intM y.data.toList := by have := vz_abs y; omega
      have d := div_sgn (intM x.data.toList) (intM y.data.toList) (intS x.data.toList) (intS y.data.toList) hm
      have lx := okz_lim hx
      have ly := okz_lim hy
      rw [vz_abs] at lx ly
      have f1 := fitsV_fit (sdQ_le (intM x.data.toList) (intM y.data.toList) (intS x.data.toList) hm lx)
      have f2 := fitsV_fit (n := sdR (intM x.data.toList) (intS x.data.toList) (intM y.data.toList)) (by omega)
      refine ⟨sgn (sdQ (intM x.data.toList) (intS x.data.toList) (intM y.data.toList)) (sdS (intM x.data.toList) (intS x.data.toList) (intM y.data.toList) (intS y.data.toList)), sdR (intM x.data.toList) (intS x.data.toList) (intM y.data.toList), fun _ _ => ⟨d.1, by omega, by rw [vz_abs]; omega⟩, fun w hg => ?_⟩
      rw [if_neg (by simpa using h), if_neg h0]
      have c := divMod_ok x y w hg hx hy (by omega) f1 f2
      rw [sg_tz _ (sdS _ _ _ _) (fun e => and_nz e), sg_tz _ false (fun e => by cases e)] at c
      exact c
  · refine ⟨0, 0, fun e => absurd e h, fun w hg => ?_⟩
    rw [if_pos h]; exact divMod_err x y w hg h
end
section
open Go.RowKit
theorem refDigit_any (c : Nat) (w : World) : Calls Tryz.prog 121 #[.int .u8 c] w fun e w' => e = .returned (.bool (decide (48 <= c /\ c <= 57))) /\ w' = w := by
  by_cases h1 : 48 <= c
  · have d1 : decide ((48 : Int) <= (c : Int)) = true := by simp; omega
    by_cases h2 : c <= 57
    · have d2 : decide ((c : Int) <= 57) = true := by simp; omega
      rw [decide_eq_true (show 48 <= c /\ c <= 57 from ⟨h1, h2⟩)]
      clear h1 h2
      go_enter Tryz.func121, Tryz.ntmps121
      go_wp2
      go_ret
      exact ⟨rfl, rfl⟩
    · have d2 : decide ((c : Int) <= 57) = false := by simp; omega
      rw [decide_eq_false (show ¬ (48 <= c /\ c <= 57) from fun h => h2 h.2)]
      clear h1 h2
      go_enter Tryz.func121, Tryz.ntmps121
      go_wp2
      go_ret
      exact ⟨rfl, rfl⟩
  · have d1 : decide ((48 : Int) <= (c : Int)) = false := by simp; omega
    rw [decide_eq_false (show ¬ (48 <= c /\ c <= 57) from fun h => h1 h.1)]
    clear h1
    go_enter Tryz.func121, Tryz.ntmps121
    go_wp2
    go_ret
    exact ⟨rfl, rfl⟩
theorem refWhen_any (b : Bool) (e : Int) (w : World) : Calls Tryz.prog 65 #[.bool b, .int .i64 e] w fun x w' => x = .returned (.int .i64 (if b then e else 0)) /\ w' = w := by
  cases b
  · go_enter Tryz.func65, Tryz.ntmps65
    go_wp2
    go_ret
    exact ⟨rfl, rfl⟩
  · go_enter Tryz.func65, Tryz.ntmps65
    go_wp2
    go_ret
    exact ⟨rfl, rfl⟩
end
end Go.Proofs.YtpbegoflpfdajaaGreatDoor
/- WHAT IS PROVED: contracts of functions of the numbers package and laws for them, used by the last text of this claim. CONDITIONS: stated at each theorem. -/
import Derived.Test.YtpbegoflpfdajaaGreatDoorN42
namespace Go.Proofs.YtpbegoflpfdajaaGreatDoor
open Go.RowKit
open Go.Lib (decDigits nDigits decDigits_length)

theorem occ_slash (A B : List UInt8) : Lib.occAt (A ++ 47 :: B) [47] A.length = true := by
  unfold Lib.occAt; rw [List.drop_left]; rfl
theorem occ_not (l : List UInt8) (j : Nat) (h : ∀ c, l[j]? = some c → c ≠ 47) : Lib.occAt l [47] j = false := by
  unfold Lib.occAt
  cases hd : l.drop j with
  | nil => rfl
  | cons c t =>
    have : l[j]? = some c := by
      have := List.getElem?_drop (xs := l) (i := j) (j := 0)
      rw [hd] at this; simpa using this.symm
    have hc := h c this
    show (([47] : List UInt8).isPrefixOf (c :: t)) = false
    simp [List.isPrefixOf]
    exact fun e => hc e.symm
/-- the first slash -/
theorem cut_at (A B : List UInt8) (h : ∀ c ∈ A, c ≠ 47) : Lib.cut (A ++ 47 :: B) [47] = (A, B, true) := by
  have hi : Lib.index (A ++ 47 :: B) [47] = A.length := Lib.index_first (by simp) (occ_slash A B) (fun j hj => occ_not _ j (fun c hc => by
    rw [List.getElem?_append_left hj] at hc
    exact h c (List.mem_of_getElem? hc)))
  unfold Lib.cut
  rw [hi, if_pos (by omega)]
  simp
theorem cut_found {l : List UInt8} (h : (Lib.cut l [47]).2.2 = true) : l = upT l ++ 47 :: loT l := by
  unfold upT loT
  rcases Lib.index_spec l [47] with ⟨h1, _⟩ | ⟨i, h1, h2, h3, _⟩
  · unfold Lib.cut at h; rw [if_neg (by omega)] at h; cases h
  · unfold Lib.cut
    rw [if_pos (by omega), h1]
    unfold Lib.occAt at h3
    cases hd : l.drop i with
    | nil => rw [hd] at h3; cases h3
    | cons c t =>
      rw [hd] at h3
      have hc : c = 47 := by
        simp [List.isPrefixOf] at h3
        exact h3.symm
      have ht : l.drop (i + 1) = t := by rw [← List.drop_drop, hd]; rfl
      show l = l.take (Int.toNat i) ++ 47 :: l.drop (Int.toNat i + 1)
      rw [Int.toNat_natCast, ht, ← hc, ← hd, List.take_append_drop]
theorem no_slash {l : List UInt8} (h : ∀ c ∈ l, c ≠ 47) : Lib.contains l [47] = false := by
  unfold Lib.contains
  rw [Lib.index_none (fun j _ => occ_not _ j (fun c hc => h c (List.mem_of_getElem? hc)))]
  decide
theorem dec_slash (n : Nat) : ∀ c ∈ decDigits n, c ≠ 47 := fun c hc e => by
  have := decDigits_dig n c hc
  simp only [isDig, decide_eq_true_eq] at this
  rw [e] at this
  exact absurd this.1 (by decide)
theorem sg_slash (n : Nat) (s : Bool) : ∀ c ∈ sgText n s, c ≠ 47 := by
  unfold sgText
  cases s
  · exact dec_slash n
  · intro c hc
    rcases List.mem_cons.1 hc with h | h
    · rw [h]; decide
    · exact dec_slash n c h

theorem ok_text {l : List UInt8} (h : ckL l = 0) : sgText (intM l) (intS l) = l := by
  have h2 := tz_vz (x := ⟨l.toArray⟩) h
  have h3 := congrArg (fun x : ByteArray => x.data.toList) h2
  rw [show (tz (vz ⟨l.toArray⟩)).data.toList = sgText (vz ⟨l.toArray⟩).natAbs (decide (vz ⟨l.toArray⟩ < 0)) from rfl, vz_abs, vz_sign] at h3
  exact h3
theorem text_ok (n : Nat) (s : Bool) (h : n < 10 ^ 120) (hs : s = true → n ≠ 0) : ckL (sgText n s) = 0 ∧ intM (sgText n s) = n ∧ intS (sgText n s) = s := by
  have e := sg_tz n s hs
  have o := okz_tz (z := sgn n s) (by rw [sgn_abs]; exact h)
  have v := vz_tz (sgn n s)
  rw [← e] at o v
  have hm : intM (sgText n s) = n := by
    have := vz_abs ⟨(sgText n s).toArray⟩
    rw [v, sgn_abs] at this; exact this.symm
  refine ⟨o, hm, ?_⟩
  have := vz_sign ⟨(sgText n s).toArray⟩
  rw [v] at this
  rw [show intS (sgText n s) = decide (sgn n s < 0) from this.symm]
  cases s
  · exact decide_eq_false (by rw [sgn_f]; omega)
  · have := hs rfl; exact decide_eq_true (by rw [sgn_t]; omega)

/-- the fraction that a text spells -/
def vq (x : ByteArray) : Rat := mkRat (sgn (frN x.data.toList) (frS x.data.toList)) (frD x.data.toList)
/-- a fraction's text -/
def tq (r : Rat) : ByteArray := ⟨(frText r.num.natAbs (decide (r.num < 0)) r.den false).toArray⟩
/-- a text that passes CheckReal -/
def Okq (x : ByteArray) : Prop := ckR x.data.toList = 0
theorem sgn_sign (n : Nat) (s : Bool) (h : s = true → n ≠ 0) : decide (sgn n s < 0) = s := by
  cases s
  · exact decide_eq_false (by rw [sgn_f]; omega)
  · have := h rfl; exact decide_eq_true (by rw [sgn_t]; omega)
theorem vq_parts {x : ByteArray} (h : Okq x) : (vq x).num = sgn (frN x.data.toList) (frS x.data.toList) ∧ (vq x).den = frD x.data.toList := by
  have k := ckR_ok h
  unfold vq
  rw [← Rat.mk_eq_mkRat _ _ (Nat.ne_of_gt k.nz) (by rw [sgn_abs]; exact k.red)]
  exact ⟨rfl, rfl⟩
/-- a text that passes CheckReal is its fraction's text -/
theorem tq_vq {x : ByteArray} (h : Okq x) : tq (vq x) = x := by
  have k := ckR_ok h
  obtain ⟨h1, h2⟩ := vq_parts h
  apply ByteArray.ext
  apply Array.toList_inj.1
  show frText (vq x).num.natAbs (decide ((vq x).num < 0)) (vq x).den false = x.data.toList
  rw [h1, h2, sgn_abs, sgn_sign _ _ k.sign]
  unfold frText
  have t1 := ok_text k.up
  have t2 := ok_text k.lo
  rw [k.pos] at t2
  rw [show sgText (frN x.data.toList) (frS x.data.toList) = upT x.data.toList from t1, show sgText (frD x.data.toList) false = loT x.data.toList from t2]
  exact (cut_found k.found).symm
/-- within the limit -/
def Fit (r : Rat) : Prop := r.num.natAbs < 10 ^ 120 ∧ r.den < 10 ^ 120
theorem num_sgn (r : Rat) : sgn r.num.natAbs (decide (r.num < 0)) = r.num := by
  unfold sgn
  by_cases h : r.num < 0
  · rw [decide_eq_true h, if_pos rfl]; omega
  · rw [decide_eq_false h, if_neg (by decide)]; omega
theorem okq_tq {r : Rat} (h : Fit r) : Okq (tq r) ∧ vq (tq r) = r := by
  have hl : (tq r).data.toList = sgText r.num.natAbs (decide (r.num < 0)) ++ 47 :: sgText r.den false := rfl
  have hc := cut_at (sgText r.num.natAbs (decide (r.num < 0))) (sgText r.den false) (sg_slash _ _)
  obtain ⟨a1, a2, a3⟩ := text_ok r.num.natAbs (decide (r.num < 0)) h.1 (fun e => by have := of_decide_eq_true e; omega)
  obtain ⟨b1, b2, b3⟩ := text_ok r.den false h.2 (fun e => by cases e)
  have hu : upT (tq r).data.toList = sgText r.num.natAbs (decide (r.num < 0)) := by unfold upT; rw [hl, hc]
  have hlo : loT (tq r).data.toList = sgText r.den false := by unfold loT; rw [hl, hc]
  have hn : frN (tq r).data.toList = r.num.natAbs := by unfold frN; rw [hu, a2]
  have hs : frS (tq r).data.toList = decide (r.num < 0) := by unfold frS; rw [hu, a3]
  have hd : frD (tq r).data.toList = r.den := by unfold frD; rw [hlo, b2]
  refine ⟨?_, ?_⟩
  · unfold Okq ckR
    rw [hu, hlo, a1, b1, hl, hc, b3, a2, b2]
    rw [if_neg, if_neg, if_neg]
    · rintro (e | e | e)
      · cases e
      · exact r.den_nz e
      · exact e r.reduced
    · decide
    · rintro (e | e)
      · cases e
      · rw [no_slash (sg_slash _ _)] at e; cases e
  · unfold vq
    rw [hn, hs, hd, num_sgn, Rat.mkRat_self]
theorem tq_inj {a b : ByteArray} (ha : Okq a) (hb : Okq b) (h : vq a = vq b) : a = b := by rw [← tq_vq ha, h, tq_vq hb]
/-- a result -/
def resQ (r : Rat) : Value := resF r.num.natAbs (decide (r.num < 0)) r.den false
theorem resQ_fit {r : Rat} (h : Fit r) : resQ r = .tuple #[.string (tq r), .int .i64 0] := resF_val _ _ _ _ h.1 h.2 rfl
theorem mk_parts (p q : Nat) (s : Bool) (hq : q ≠ 0) : (mkRat (sgn p s) q).num = sgn (p / Nat.gcd p q) s ∧ (mkRat (sgn p s) q).den = q / Nat.gcd p q := by
  rw [Rat.mkRat_def, dif_neg hq, Rat.normalize_eq]
  show sgn p s / ((sgn p s).natAbs.gcd q : Nat) = _ ∧ q / (sgn p s).natAbs.gcd q = _
  rw [sgn_abs]
  refine ⟨?_, rfl⟩
  have hg : 0 < Nat.gcd p q := Nat.gcd_pos_of_pos_right _ (Nat.pos_of_ne_zero hq)
  obtain ⟨k, hk⟩ := Nat.gcd_dvd_left p q
  generalize Nat.gcd p q = g at *
  subst hk
  rw [Nat.mul_div_cancel_left _ hg]
  have hg2 : (g : Int) ≠ 0 := by omega
  cases s
  · show ((g * k : Nat) : Int) / (g : Int) = (k : Int)
    rw [Int.natCast_mul, Int.mul_ediv_cancel_left _ hg2]
  · show -((g * k : Nat) : Int) / (g : Int) = -(k : Int)
    rw [Int.natCast_mul, ← Int.mul_neg, Int.mul_ediv_cancel_left _ hg2]
theorem resR_rat (p : Nat) (s : Bool) (q : Nat) (t : Bool) (hq : q ≠ 0) : resR p s q t = resQ (mkRat (sgn p (ratS p s t)) q) := by
  obtain ⟨h1, h2⟩ := mk_parts p q (ratS p s t) hq
  unfold resR resQ
  rw [h1, h2, sgn_abs]
  rw [show decide (sgn (p / Nat.gcd p q) (ratS p s t) < 0) = (ratS p s t && !decide (p / Nat.gcd p q = 0)) from ?_]
  rw [← sgn_nz, sgn_sign _ _ (fun e => and_nz e)]
theorem mk_fit (n : Int) (d : Nat) (hd : d ≠ 0) (h1 : n.natAbs < 10 ^ 120) (h2 : d < 10 ^ 120) : Fit (mkRat n d) := by
  have hn : n = sgn n.natAbs (decide (n < 0)) := by
    unfold sgn
    by_cases h : n < 0
    · rw [decide_eq_true h, if_pos rfl]; omega
    · rw [decide_eq_false h, if_neg (by decide)]; omega
  obtain ⟨e1, e2⟩ := mk_parts n.natAbs d (decide (n < 0)) hd
  rw [← hn] at e1 e2
  refine ⟨?_, ?_⟩
  · rw [e1, sgn_abs]; exact Nat.lt_of_le_of_lt (Nat.div_le_self _ _) h1
  · rw [e2]; exact Nat.lt_of_le_of_lt (Nat.div_le_self _ _) h2
end Go.Proofs.YtpbegoflpfdajaaGreatDoor

namespace Go.Proofs.YtpbegoflpfdajaaGreatDoor
open Go.RowKit
open Go.Lib (decDigits nDigits decDigits_length)

theorem okq_nz {x : ByteArray} (h : Okq x) : frD x.data.toList ≠ 0 := Nat.ne_of_gt (ckR_ok h).nz
theorem mulS_sgn (n m : Nat) (s t : Bool) : sgn (n * m) (mulS s t (n * m)) = sgn n s * sgn m t := sgn_mul n m s t
theorem addF_sgn (p1 : Nat) (s1 : Bool) (q1 : Nat) (p2 : Nat) (s2 : Bool) (q2 : Nat) : sgn (addF p1 s1 q1 p2 s2 q2).1 (addF p1 s1 q1 p2 s2 q2).2 = sgn p1 s1 * q2 + sgn p2 s2 * q1 := by
  unfold addF
  rw [(addR_sgn _ _ _ _).1, mulS_sgn, mulS_sgn, sgn_f, sgn_f]
theorem ratS_f (p : Nat) (s : Bool) : ratS p s false = s := rfl
theorem add_mk (p1 : Nat) (s1 : Bool) (q1 : Nat) (p2 : Nat) (s2 : Bool) (q2 : Nat) (h1 : q1 ≠ 0) (h2 : q2 ≠ 0) : mkRat (sgn (addF p1 s1 q1 p2 s2 q2).1 (ratS (addF p1 s1 q1 p2 s2 q2).1 (addF p1 s1 q1 p2 s2 q2).2 false)) (q1 * q2) = mkRat (sgn p1 s1) q1 + mkRat (sgn p2 s2) q2 := by
  rw [ratS_f, addF_sgn, Rat.mkRat_add_mkRat _ _ h1 h2]
/-- AddReal, in fractions -/
theorem addQ {x y : ByteArray} {r : Rat} (hx : Okq x) (hy : Okq y) (sx : x.size < 4294967281) (sy : y.size < 4294967281) (hr : vq x + vq y = r) (w : World) (hg : Gl w) :
    Calls Tryz.prog 35 #[.string x, .string y] w fun e w' => e = .returned (resQ r) ∧ Below w.heap.size w w' := by
  have c := addReal_ok x y sx sy hx hy w hg
  rw [resR_rat _ _ _ _ (Nat.mul_ne_zero (okq_nz hx) (okq_nz hy)), add_mk _ _ _ _ _ _ (okq_nz hx) (okq_nz hy)] at c
  rw [← hr]; exact c
/-- SubReal, in fractions -/
theorem subQ {x y : ByteArray} {r : Rat} (hx : Okq x) (hy : Okq y) (sx : x.size < 4294967281) (sy : y.size < 4294967281) (hr : vq x - vq y = r) (w : World) (hg : Gl w) :
    Calls Tryz.prog 37 #[.string x, .string y] w fun e w' => e = .returned (resQ r) ∧ Below w.heap.size w w' := by
  have c := subReal_ok x y sx sy hx hy w hg
  rw [resR_rat _ _ _ _ (Nat.mul_ne_zero (okq_nz hx) (okq_nz hy)), add_mk _ _ _ _ _ _ (okq_nz hx) (okq_nz hy), sgn_neg, ← Rat.neg_mkRat, ← Rat.sub_eq_add_neg] at c
  rw [← hr]; exact c
/-- MulReal, in fractions -/
theorem mulQ {x y : ByteArray} {r : Rat} (hx : Okq x) (hy : Okq y) (sx : x.size < 4294967281) (sy : y.size < 4294967281) (hr : vq x * vq y = r) (w : World) (hg : Gl w) :
    Calls Tryz.prog 39 #[.string x, .string y] w fun e w' => e = .returned (resQ r) ∧ Below w.heap.size w w' := by
  have c := mulReal_ok x y sx sy hx hy w hg
  rw [resR_rat _ _ _ _ (Nat.mul_ne_zero (okq_nz hx) (okq_nz hy)), ratS_f, mulS_sgn, ← Rat.mkRat_mul_mkRat] at c
  rw [← hr]; exact c
theorem icmp_cases3 (a b : Int) : (a < b ∧ icmp a b = -1) ∨ (a = b ∧ icmp a b = 0) ∨ (b < a ∧ icmp a b = 1) := by
  unfold icmp
  rcases Int.lt_trichotomy a b with h | h | h
  · exact Or.inl ⟨h, if_pos h⟩
  · subst h; exact Or.inr (Or.inl ⟨rfl, by simp⟩)
  · exact Or.inr (Or.inr ⟨h, by rw [if_neg (by omega), if_pos h]⟩)
/-- how two fractions compare -/
def qcmp (a b : Rat) : Int := icmp (a.num * b.den) (b.num * a.den)
theorem cmpF_icmp (p1 : Nat) (s1 : Bool) (q1 : Nat) (p2 : Nat) (s2 : Bool) (q2 : Nat) : cmpF p1 s1 q1 p2 s2 q2 = icmp (sgn p1 s1 * q2) (sgn p2 s2 * q1) := by
  unfold cmpF
  split
  · rename_i h
    obtain ⟨⟨rfl, rfl⟩, rfl⟩ := h
    unfold icmp; rw [if_neg (by omega), if_neg (by omega)]
  · rw [cmpS_sgn (p1 * q2) (p2 * q1) (mulS s1 false (p1 * q2)) (mulS s2 false (p2 * q1)) (fun e => and_nz e) (fun e => and_nz e), mulS_sgn, mulS_sgn, sgn_f, sgn_f]
/-- CompareReal, in fractions -/
theorem cmpQ {x y : ByteArray} {k : Int} (hx : Okq x) (hy : Okq y) (sx : x.size < 4294967281) (sy : y.size < 4294967281) (hk : qcmp (vq x) (vq y) = k) (w : World) (hg : Gl w) :
    Calls Tryz.prog 43 #[.string x, .string y] w fun e w' => e = .returned (.tuple #[.int .i64 k, .int .i64 0]) ∧ Below w.heap.size w w' := by
  have c := compareReal_ok x y sx sy w hg hx hy
  rw [cmpF_icmp] at c
  unfold qcmp at hk
  rw [(vq_parts hx).1, (vq_parts hx).2, (vq_parts hy).1, (vq_parts hy).2] at hk
  rw [hk] at c
  exact c
theorem qcmp_cases (a b : Rat) : (a < b ∧ qcmp a b = -1) ∨ (a = b ∧ qcmp a b = 0) ∨ (b < a ∧ qcmp a b = 1) := by
  unfold qcmp
  rcases icmp_cases3 (a.num * b.den) (b.num * a.den) with ⟨h, e⟩ | ⟨h, e⟩ | ⟨h, e⟩
  · exact Or.inl ⟨(Rat.lt_iff a b).2 h, e⟩
  · refine Or.inr (Or.inl ⟨?_, e⟩)
    rw [← Rat.mkRat_self a, ← Rat.mkRat_self b]
    exact (Rat.mkRat_eq_iff a.den_nz b.den_nz).2 h
  · exact Or.inr (Or.inr ⟨(Rat.lt_iff b a).2 h, e⟩)
theorem qcmp_sub (a b : Rat) : qcmp (a - b) 0 = qcmp a b := by
  rcases qcmp_cases a b with ⟨h, e⟩ | ⟨h, e⟩ | ⟨h, e⟩
  · rw [e]
    rcases qcmp_cases (a - b) 0 with ⟨h2, e2⟩ | ⟨h2, e2⟩ | ⟨h2, e2⟩
    · exact e2
    · have : a = b := by rw [← Rat.sub_add_cancel (a := a) (b := b), h2, Rat.zero_add]
      rw [this] at h; exact absurd h Rat.lt_irrefl
    · have : b < a := (Rat.lt_iff_sub_pos b a).2 h2
      exact absurd (Rat.le_of_lt this) (Rat.not_le.2 h)
  · rw [e, h, Rat.sub_self]; decide
  · rw [e]
    rcases qcmp_cases (a - b) 0 with ⟨h2, e2⟩ | ⟨h2, e2⟩ | ⟨h2, e2⟩
    · have := (Rat.lt_iff_sub_pos b a).1 h
      exact absurd (Rat.le_of_lt this) (Rat.not_le.2 h2)
    · have : a = b := by rw [← Rat.sub_add_cancel (a := a) (b := b), h2, Rat.zero_add]
      rw [this] at h; exact absurd h Rat.lt_irrefl
    · exact e2
/-- DivReal, in fractions -/
theorem divQ {x y : ByteArray} (hx : Okq x) (hy : Okq y) (sx : x.size < 4294967281) (sy : y.size < 4294967281) (h0 : vq y ≠ 0) :
    ∃ r : Rat, r * vq y = vq x ∧ (∀ _k : Nat, frN x.data.toList * frD y.data.toList < 10 ^ 120 → frD x.data.toList * frN y.data.toList < 10 ^ 120 → Fit r) ∧ ∀ w, Gl w → Calls Tryz.prog 41 #[.string x, .string y] w fun e w' => e = .returned (resQ r) ∧ Below w.heap.size w w' := by
  have hp : frN y.data.toList ≠ 0 := by
    intro e
    apply h0
    unfold vq
    rw [e, show sgn 0 (frS y.data.toList) = 0 by unfold sgn; split <;> rfl]
    exact (Rat.mkRat_eq_zero (okq_nz hy)).2 rfl
  have hd : frD x.data.toList * frN y.data.toList ≠ 0 := Nat.mul_ne_zero (okq_nz hx) hp
  refine ⟨mkRat (sgn (frN x.data.toList * frD y.data.toList) (ratS (frN x.data.toList * frD y.data.toList) (mulS (frS x.data.toList) false (frN x.data.toList * frD y.data.toList)) (mulS false (frS y.data.toList) (frD x.data.toList * frN y.data.toList)))) (frD x.data.toList * frN y.data.toList), ?_, fun _ h1 h2 => mk_fit _ _ hd (by rw [sgn_abs]; exact h1) h2, fun w hg => ?_⟩
  · unfold vq
    rw [Rat.mkRat_mul_mkRat]
    refine (Rat.mkRat_eq_iff (Nat.mul_ne_zero hd (okq_nz hy)) (okq_nz hx)).2 ?_
    have hm : mulS false (frS y.data.toList) (frD x.data.toList * frN y.data.toList) = frS y.data.toList := by
      unfold mulS; rw [decide_eq_false hd]; simp
    rw [hm]
    unfold ratS
    have e1 := mulS_sgn (frN x.data.toList) (frD y.data.toList) (frS x.data.toList) false
    rw [sgn_f] at e1
    generalize mulS (frS x.data.toList) false (frN x.data.toList * frD y.data.toList) = S at *
    cases frS y.data.toList
    · rw [if_neg (by decide), e1, sgn_f, Int.natCast_mul, Int.natCast_mul]
      simp only [Int.mul_assoc, Int.mul_comm, Int.mul_left_comm]
    · rw [if_pos rfl, sgn_neg, e1, sgn_t, Int.natCast_mul, Int.natCast_mul, Int.neg_mul_neg]
      simp only [Int.mul_assoc, Int.mul_comm, Int.mul_left_comm]
  · have c := divReal_ok x y sx sy w hg hx hy hp
    rw [resR_rat _ _ _ _ hd] at c
    exact c
/-- Floor, in fractions -/
theorem floorQ {x : ByteArray} (hx : Okq x) (sx : x.size < 4294967281) (hl : frN x.data.toList < 10 ^ 60) :
    ∃ n : Int, n.natAbs < 10 ^ 61 ∧ qcmp n (vq x) ≤ 0 ∧ 0 < qcmp ((n + 1 : Int) : Rat) (vq x) ∧ ∀ w, Gl w → Calls Tryz.prog 53 #[.string x] w fun e w' => e = .returned (resZ n) ∧ Below w.heap.size w w' := by
  have hd := (ckR_ok hx).nz
  have h := div_sgn (frN x.data.toList) (frD x.data.toList) (frS x.data.toList) false hd
  rw [sgn_f] at h
  have hq : sdQ (frN x.data.toList) (frS x.data.toList) (frD x.data.toList) ≤ frN x.data.toList + 1 := by
    have := Nat.div_le_self (frN x.data.toList) (frD x.data.toList)
    unfold sdQ; split <;> omega
  have hp : (10 : Nat) ^ 60 + 1 < 10 ^ 61 ∧ (10 : Nat) ^ 61 < 10 ^ 120 := by decide
  obtain ⟨v1, v2⟩ := vq_parts hx
  refine ⟨sgn (sdQ (frN x.data.toList) (frS x.data.toList) (frD x.data.toList)) (sdS (frN x.data.toList) (frS x.data.toList) (frD x.data.toList) false), by rw [sgn_abs]; omega, ?_, ?_, fun w hg => ?_⟩
  · unfold qcmp
    rw [Rat.num_intCast, Rat.den_intCast, v1, v2]
    generalize sgn (sdQ _ _ _) _ = n at *
    unfold icmp
    have e : n * (frD x.data.toList : Int) = frD x.data.toList * n := Int.mul_comm _ _
    rw [e]
    split
    · omega
    · rw [if_neg (by omega)]; omega
  · unfold qcmp
    rw [Rat.num_intCast, Rat.den_intCast, v1, v2]
    generalize sgn (sdQ _ _ _) _ = n at *
    unfold icmp
    have e : (n + 1) * (frD x.data.toList : Int) = frD x.data.toList * n + frD x.data.toList := by rw [Int.add_mul, Int.mul_comm]; omega
    rw [e, if_neg (by omega), if_pos (by omega)]; omega
  · have c := floor_ok x sx w hg hx
    rw [resT_sgn (n := sdQ _ _ _) (s := sdS _ _ _ false) (by omega) (fun e => and_nz e)] at c
    exact c
end Go.Proofs.YtpbegoflpfdajaaGreatDoor

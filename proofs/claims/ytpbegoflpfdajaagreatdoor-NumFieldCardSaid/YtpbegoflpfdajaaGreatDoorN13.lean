/- WHAT IS PROVED: contracts of functions of the numbers package and laws for them, used by the last text of this claim. CONDITIONS: stated at each theorem. -/
import Derived.Laws.IdiomStrings
import Derived.Test.YtpbegoflpfdajaaGreatDoorN12
import Derived.Laws.MakeOwn
namespace Go.Proofs.YtpbegoflpfdajaaGreatDoor
open Go.RowKit
open Go.Lib (decDigits nDigits decDigits_length byteCells)

theorem nD_bound (m c : Nat) (h : m < bb ^ c) (hc : 1 ≤ c) : nDigits m ≤ 9 * c := by
  rw [bb_ten, ← Nat.pow_mul] at h
  obtain ⟨k, hk⟩ : ∃ k, 9 * c = k + 1 := ⟨9 * c - 1, by omega⟩
  rw [hk] at h ⊢
  exact nD_le k m h
theorem row_text {W : World} {D : Nat} {v : Value} {l : List UInt8} {k : Nat} (h : W.ownsRow D 5 1 v (k + 1) (byteCells l)) (hl : l.length = k + 1) :
    ∃ g cap, v = .slice (some ⟨g, 0, none⟩) (k + 1) cap ∧ (convert 152 9 (.slice (some ⟨g, 0, none⟩) (k + 1) cap)).run Tryz.prog W = .ok (.string ⟨l.toArray⟩) W := by
  obtain ⟨g, cap, rfl⟩ := ownsRow_succ h
  refine ⟨g, cap, rfl, ?_⟩
  have hc := h.cells (g := g) rfl
  rw [← hl]
  exact run_convert_bytes_back W 152 9 5 ⟨g, 0, none⟩ cap l Tryz.underlying152 Tryz.underlying5 Tryz.underlying9 (fun j hj => hc j _ (by simp [byteCells, hj]))
theorem put_one (v : Nat) (hv : v < bb) (D : Nat) (w : World) (hD : DT D [] w) (hg : Gl w) :
    Calls Tryz.prog 198 #[.pointer (some ⟨D, 0, none⟩), .int .u32 v, .int .i64 1] w fun e w' => e = .returned (.tuple #[]) ∧ DT D (decDigits v) w' ∧ Below D w w' := by
  refine (put_any v hv 1 (by omega) D [] (by simp) w hD hg).mono ?_
  rintro e w' ⟨h1, h2, h3⟩
  have := nD_pos v
  rw [show 1 - nDigits v = 0 by omega] at h2
  exact ⟨h1, h2, h3⟩
theorem put_nine (v : Nat) (hv : v < bb) (D : Nat) (bs : List UInt8) (hlen : bs.length ≤ 1000) (w : World) (hD : DT D bs w) (hg : Gl w) :
    Calls Tryz.prog 198 #[.pointer (some ⟨D, 0, none⟩), .int .u32 v, .int .i64 9] w fun e w' => e = .returned (.tuple #[]) ∧ DT D (bs ++ padL 9 v) w' ∧ Below D w w' := by
  refine (put_any v hv 9 (by omega) D bs hlen w hD hg).mono ?_
  rintro e w' ⟨h1, h2, h3⟩
  rw [← pad_zeros 8 v (by unfold bb at hv; omega)] at h2
  exact ⟨h1, h2, h3⟩

set_option maxHeartbeats 1000000 in
set_option maxRecDepth 100000 in
/-- String of a magnitude -/
theorem string_any (n : Nat) (hn : n < bb ^ 30) (w : World) (hg : Gl w) :
    Calls Tryz.prog 157 #[.agg (mgL n).toArray] w fun e w' => e = .returned (.string ⟨(decDigits n).toArray⟩) ∧ Below w.heap.size w w' := by
  have Hr := Lib.hid (show ((w.alloc (.cells (mgL n).toArray 86)).alloc (.cells #[.slice none 0 0] 203)).rangeAt w.heap.size 0 (mgL n) from World.rangeAt_alloc (range_new w _ 86) _)
  have HB := Lib.hid (show Below w.heap.size w ((w.alloc (.cells (mgL n).toArray 86)).alloc (.cells #[.slice none 0 0] 203)) from ((Below.refl w.heap.size w).alloc (Nat.le_refl _) _).alloc (by simp) _)
  have HG := Lib.hid (hg.keep HB.out)
  have hD : DT (w.heap.size + 1) [] ((w.alloc (.cells (mgL n).toArray 86)).alloc (.cells #[.slice none 0 0] 203)) :=
    ⟨.slice none 0 0, by have := Boxed.new (w.alloc (.cells (mgL n).toArray 86)) 203 (.slice none 0 0); rwa [World.size_alloc] at this, World.ownsRow_nil _ _ _ _⟩
  have HD := Lib.hid hD; clear hD
  have hl := (lsz_le_iff 30 n).2 hn
  have cs := fun w => size_any n hn w
  obtain ⟨t, ht⟩ : ∃ t, lsz n - 1 = t := ⟨_, rfl⟩
  have ht30 : t < 30 := by omega
  have htop : n / bb ^ t = lim n t := by
    unfold lim
    refine (Nat.mod_eq_of_lt ?_).symm
    rw [Nat.div_lt_iff_lt_mul (bb_pow_pos _), ← Nat.pow_succ']
    exact Nat.lt_of_lt_of_le (lsz_lt n) (pow_mono (by omega))
  have hpos : 0 < t → 0 < n / bb ^ t := by
    intro h
    have h0 : n ≠ 0 := by rintro rfl; rw [lsz_zero] at ht; omega
    have := lsz_top h0
    rw [ht] at this
    exact Nat.div_pos this (bb_pow_pos t)
  obtain ⟨L, hL⟩ : ∃ L, lsz n = L := ⟨_, rfl⟩
  rw [hL] at cs hl ht
  have hmax : max (wrap64 ((L : Int) - 1)) 0 = (t : Int) := by
    unfold wrap64; omega
  have Hg0 := Lib.hid hg
  have Hn := Lib.hid hn
  have Cs := Lib.hid cs
  have Htop := Lib.hid htop; have Hpos := Lib.hid hpos
  have Hs := Lib.hid (show w.heap.size + 1 < ((w.alloc (.cells (mgL n).toArray 86)).alloc (.cells #[.slice none 0 0] 203)).heap.size by simp)
  clear cs ht htop hpos hL hg hn hl
  go_enter Tryz.func157, Tryz.ntmps157
  go_wp2_with (first
    | ((with_reducible refine ld86 w.heap.size 0 n ?_ ?_ ?_); (· exact ⟨rfl, _, rfl, rfl⟩); · exact Hr.out)
    | (go_at_call 159; (with_reducible refine (Cs.out _).mono ?_); rintro e w1 ⟨rfl, hb1⟩; have hc1 := cell_keep (cell_of_range Hr.out (mgL_get (n := n) ht30)) hb1; have HB1 := Lib.hid hb1; clear hb1)
    | (go_at_call 198; (with_reducible refine (put_one (lim n t) (lim_lt n t) (w.heap.size + 1) _ (HD.out.below HB1.out) (HG.out.keep HB1.out)).mono ?_); rintro e w2 ⟨rfl, hd2, hb2⟩; have HD2 := Lib.hid hd2; have HB2 := Lib.hid hb2; clear hd2 hb2))

  have hW2 : Below (w.heap.size + 1) ((w.alloc (.cells (mgL n).toArray 86)).alloc (.cells #[.slice none 0 0] 203)) w2 := (HB1.out.mono (by have := Hs.out; omega)).trans HB2.out
  have HW2 := Lib.hid hW2; clear hW2 hc1
  have hdt2 : DT (w.heap.size + 1) (decDigits (n / bb ^ t)) w2 := by rw [Htop.out]; exact HD2.out
  have HDT2 := Lib.hid hdt2; clear hdt2
  go_loopw [19] (fun i wr => ∃ j : Nat, i = .int .i64 j ∧ j ≤ t ∧ DT (w.heap.size + 1) (decDigits (n / bb ^ (t - j))) wr ∧ Below (w.heap.size + 1) w2 wr) (fun i _ => t - (intOf i).toNat)
  case atStart => exact ⟨0, rfl, by omega, HDT2.out, Below.refl _ _⟩
  case round =>
    obtain ⟨j, rfl, hj, hdt, hbl⟩ := hrel
    have hW := HW2.out.trans hbl
    have hw0 : Below w.heap.size w wr := HB.out.trans (hW.mono (by omega))
    have hgl := Hg0.out.keep hw0
    by_cases h : j < t
    · have d1 : decide ((j : Int) < (t : Int)) = true := by simp; omega
      obtain ⟨i, hi⟩ : ∃ i, t - 1 - j = i := ⟨_, rfl⟩
      have e1 : t - j = i + 1 := by omega
      have e2 : (t : Int) - 1 - (j : Int) = (i : Int) := by omega
      have e3 : t - (j + 1) = i := by omega
      have e4 : wrap64 ((t : Int) - 1 - (j : Int)) = (i : Int) := by unfold wrap64; omega
      have hcell : wr.cell? ⟨w.heap.size, i, none⟩ = some (.int .u32 (lim n i)) :=
        (hW.cell (p := ⟨w.heap.size, i, none⟩) (by simp)).trans (cell_of_range Hr.out (mgL_get (by omega)))
      rw [e1] at hdt
      have hp : 0 < n / bb ^ (i + 1) := Nat.lt_of_lt_of_le (Hpos.out (by omega)) (Nat.div_le_div_left (pow_mono (by omega)) (bb_pow_pos _))
      have hst := dec_limb n i hp
      have hln : (decDigits (n / bb ^ (i + 1))).length ≤ 1000 := by
        rw [decDigits_length]
        have := nD_bound (n / bb ^ (i + 1)) 30 (Nat.lt_of_le_of_lt (Nat.div_le_self _ _) Hn.out) (by omega)
        omega
      have cp := put_nine (lim n i) (lim_lt n i) (w.heap.size + 1) _ hln wr hdt hgl
      rw [← hst] at cp
      have Cp := Lib.hid cp
      clear cp hst hp hln hdt hgl hw0 hW
      have Hbl := Lib.hid hbl; clear hbl
      go_wp2_with (first
        | (go_at_call 198; (with_reducible refine (Cp.out).mono ?_); rintro e w4 ⟨rfl, hd4, hb4⟩; have HD4 := Lib.hid hd4; have HB4 := Lib.hid hb4; clear hd4 hb4))
      go_roundw
      case rel => exact ⟨j + 1, by go_num, by omega, by rw [e3]; exact HD4.out, Hbl.out.trans HB4.out⟩
      case measure => simp [intOf]; omega
    · have hjt : j = t := by omega
      have d1 : decide ((j : Int) < (t : Int)) = false := by simp; omega
      rw [hjt, Nat.sub_self, Nat.pow_zero, Nat.div_one] at hdt
      obtain ⟨v, hv, hrow⟩ := hdt
      have hpos := nD_pos n
      obtain ⟨q, hq⟩ : ∃ q, (decDigits n).length = q + 1 := ⟨nDigits n - 1, by rw [decDigits_length]; omega⟩
      rw [hq] at hrow
      obtain ⟨g, cap, rfl, hcv⟩ := row_text hrow hq
      have hcell := hv.cell
      have HV := Lib.hid hw0
      clear hrow hv hw0 hW hgl hq hbl hpos
      obtain ⟨T, hT⟩ : ∃ T : ByteArray, ⟨(decDigits n).toArray⟩ = T := ⟨_, rfl⟩
      rw [hT] at hcv
      have HT := Lib.hid hT; clear hT
      go_wp2
      go_ret
      exact ⟨by rw [HT.out]; rfl, HV.out⟩
end Go.Proofs.YtpbegoflpfdajaaGreatDoor

namespace Go.Proofs.YtpbegoflpfdajaaGreatDoor
open Go.RowKit
open Go.Lib (decDigits nDigits decDigits_length byteCells)

/-- an integer's text -/
def sgText (n : Nat) (s : Bool) : List UInt8 := if s then 45 :: decDigits n else decDigits n
theorem minus_text (T : ByteArray) (l : List UInt8) (h : T = ⟨l.toArray⟩) : (⟨#[45]⟩ ++ T : ByteArray) = ⟨(45 :: l).toArray⟩ := by
  subst h
  apply ByteArray.ext
  simp

set_option maxHeartbeats 400000 in
theorem signedString_any (n : Nat) (s : Bool) (hn : n < bb ^ 30) (w : World) (hg : Gl w) :
    Calls Tryz.prog 90 #[.agg (sgL n s).toArray] w fun e w' => e = .returned (.string ⟨(sgText n s).toArray⟩) ∧ Below w.heap.size w w' := by
  have HB := Lib.hid (show Below w.heap.size w (w.alloc (.cells (sgL n s).toArray 88)) from (Below.refl w.heap.size w).alloc (Nat.le_refl _) _)
  have Hr := Lib.hid (show (w.alloc (.cells (sgL n s).toArray 88)).rangeAt w.heap.size 0 (mgL n) from (range_sg (range_new w _ 88)).1)
  have hc : (w.alloc (.cells (sgL n s).toArray 88)).cell? ⟨w.heap.size, 30, none⟩ = some (.bool s) := cell_sg (range_new w _ 88)
  have ct := string_any n hn _ (hg.keep HB.out)
  obtain ⟨T, hT⟩ : ∃ T : ByteArray, T = ⟨(decDigits n).toArray⟩ := ⟨_, rfl⟩
  rw [← hT] at ct
  have Ct := Lib.hid ct
  have HT := Lib.hid hT
  have hTs : T.size ≤ 270 := by
    rw [hT]
    have := nD_bound n 30 hn (by omega)
    simp only [ByteArray.size, List.size_toArray, decDigits_length]
    omega
  clear ct hT hn hg
  cases s with
  | true =>
    go_enter Tryz.func90, Tryz.ntmps90
    go_wp2_with (first
      | ((with_reducible refine ld86 w.heap.size 0 n ?_ ?_ ?_); (· exact ⟨rfl, _, rfl, rfl⟩); · exact Hr.out)
      | (go_at_call 157; (with_reducible refine (Ct.out).mono ?_); rintro e w1 ⟨rfl, hb1⟩))
    go_ret
    refine ⟨?_, HB.out.trans (hb1.mono HB.out.size)⟩
    show _ = Ending.returned (Value.string ⟨(45 :: decDigits n).toArray⟩)
    rw [← minus_text T _ HT.out]; rfl
  | false =>
    go_enter Tryz.func90, Tryz.ntmps90
    go_wp2_with (first
      | ((with_reducible refine ld86 w.heap.size 0 n ?_ ?_ ?_); (· exact ⟨rfl, _, rfl, rfl⟩); · exact Hr.out)
      | (go_at_call 157; (with_reducible refine (Ct.out).mono ?_); rintro e w1 ⟨rfl, hb1⟩))
    go_ret
    refine ⟨?_, HB.out.trans (hb1.mono HB.out.size)⟩
    show _ = Ending.returned (Value.string ⟨(decDigits n).toArray⟩)
    rw [← HT.out]; rfl

set_option maxHeartbeats 400000 in
/-- result -/
theorem result_any (n : Nat) (s : Bool) (hn : n < bb ^ 30) (w : World) (hg : Gl w) :
    Calls Tryz.prog 74 #[.agg (sgL n s).toArray] w fun e w' => e = .returned (.tuple #[.string (if digN n ≤ 120 then ⟨(sgText n s).toArray⟩ else ⟨#[]⟩), .int .i64 (fitsV n)]) ∧ Below w.heap.size w w' := by
  have HB := Lib.hid (show Below w.heap.size w (w.alloc (.cells (sgL n s).toArray 88)) from (Below.refl w.heap.size w).alloc (Nat.le_refl _) _)
  have Hr := Lib.hid (show (w.alloc (.cells (sgL n s).toArray 88)).rangeAt w.heap.size 0 (sgL n s) from range_new w _ 88)
  have HG := Lib.hid (hg.keep HB.out)
  have cf := fits_any n s hn _ HG.out
  have ct := fun w h => signedString_any n s hn w h
  obtain ⟨T, hT⟩ : ∃ T : ByteArray, ⟨(sgText n s).toArray⟩ = T := ⟨_, rfl⟩
  rw [hT] at ct ⊢
  have Ct := Lib.hid ct
  clear ct hT hn hg
  by_cases h : 120 < digN n
  · have hf : fitsV n = 4 := by unfold fitsV; rw [if_pos h]
    rw [if_neg (by omega), hf]
    rw [hf] at cf
    have Cf := Lib.hid cf; clear cf hf h
    go_enter Tryz.func74, Tryz.ntmps74
    go_wp2_with (first
      | ((with_reducible refine ld88 w.heap.size 0 n s ?_ ?_ ?_); (· exact ⟨rfl, _, rfl, rfl⟩); · exact Hr.out)
      | (go_at_call 89; (with_reducible refine (Cf.out).mono ?_); rintro e w1 ⟨rfl, hb1⟩))
    go_ret2
    exact ⟨rfl, HB.out.trans (hb1.mono HB.out.size)⟩
  · have hf : fitsV n = 0 := by unfold fitsV; rw [if_neg h]
    rw [if_pos (by omega), hf]
    rw [hf] at cf
    have Cf := Lib.hid cf; clear cf hf h
    go_enter Tryz.func74, Tryz.ntmps74
    go_wp2_with (first
      | ((with_reducible refine ld88 w.heap.size 0 n s ?_ ?_ ?_); (· exact ⟨rfl, _, rfl, rfl⟩); · first | exact Hr.out | exact range_keep Hr.out HB1.out)
      | (go_at_call 89; (with_reducible refine (Cf.out).mono ?_); rintro e w1 ⟨rfl, hb1⟩; have HB1 := Lib.hid hb1; clear hb1)
      | (go_at_call 90; (with_reducible refine (Ct.out _ (HG.out.keep HB1.out)).mono ?_); rintro e w2 ⟨rfl, hb2⟩; have HB2 := Lib.hid hb2; clear hb2))
    go_ret2
    have q1 := HB.out.trans (HB1.out.mono HB.out.size)
    exact ⟨rfl, q1.trans (HB2.out.mono q1.size)⟩
end Go.Proofs.YtpbegoflpfdajaaGreatDoor

namespace Go.Proofs.YtpbegoflpfdajaaGreatDoor
open Go.RowKit

/-- the first error of some -/
def firstE : List Int → Int
  | [] => 0
  | x :: xs => if x = 0 then firstE xs else x
theorem firstE_drop (xs : List Int) (k : Nat) (h : k < xs.length) : firstE (xs.drop k) = if xs[k] = 0 then firstE (xs.drop (k + 1)) else xs[k] := by
  rw [List.drop_eq_getElem_cons h]; rfl

set_option maxHeartbeats 400000 in
theorem firstError_any (g n c : Nat) (xs : List Int) (hn : xs.length = n) (h63 : n ≤ 1000) (w : World) (hx : ∀ i (h : i < xs.length), w.cell? ⟨g, i, none⟩ = some (.int .i64 xs[i])) :
    Calls Tryz.prog 88 #[.slice (some ⟨g, 0, none⟩) n c] w fun e w' => e = .returned (.int .i64 (firstE xs)) ∧ w' = w := by
  have Hx := Lib.hid hx; have Hn := Lib.hid hn
  clear hx hn
  go_enter Tryz.func88, Tryz.ntmps88
  go_wp2
  go_loop [7] (fun i => ∃ k : Nat, i = .int .i64 k ∧ k ≤ n ∧ firstE (xs.drop k) = firstE xs) (fun i => n - (intOf i).toNat)
  case atStart => exact ⟨0, rfl, by omega, rfl⟩
  case round =>
    obtain ⟨k, rfl, hk, hf⟩ := hrel
    have Hf := Lib.hid hf; clear hf
    by_cases h : k < n
    · have hkx : k < xs.length := by have := Hn.out; omega
      have hc := Hx.out k hkx
      have hs := firstE_drop xs k hkx
      rw [Hf.out] at hs
      obtain ⟨x, hxk⟩ : ∃ x, xs[k] = x := ⟨_, rfl⟩
      rw [hxk] at hc hs
      have d1 : decide ((k : Int) < (n : Int)) = true := by simp; omega
      by_cases h0 : x = 0
      · rw [if_pos h0] at hs
        have d2 : (x != 0) = false := by simp [h0]
        have Hs := Lib.hid hs
        clear hs h0 hxk
        go_wp2
        go_round
        case rel => exact ⟨k + 1, by go_num, by omega, Hs.out.symm⟩
        case measure => simp [intOf]; omega
      · rw [if_neg h0] at hs
        have d2 : (x != 0) = true := by simp [h0]
        have Hs := Lib.hid hs
        clear hs hxk
        go_wp2
        go_ret
        exact ⟨by rw [Hs.out]; rfl, rfl⟩
    · have hkn : k = n := by omega
      have d1 : decide ((k : Int) < (n : Int)) = false := by simp; omega
      have hz : firstE xs = 0 := by rw [← Hf.out, hkn, List.drop_of_length_le (by have := Hn.out; omega)]; rfl
      have Hz := Lib.hid hz; clear hz
      go_wp2
      go_ret
      exact ⟨by rw [Hz.out]; rfl, rfl⟩
end Go.Proofs.YtpbegoflpfdajaaGreatDoor

namespace Go.Proofs.YtpbegoflpfdajaaGreatDoor
open Go.RowKit

theorem Tryz.info24 : (Tryz.prog.info? 24).map (fun i => (i.zero, i.size, i.bytes)) = some (some (.int .i64 0), 1, 8) := by kernel_rfl
def errV (xs : List Int) : List Value := xs.map fun x => .int .i64 x
theorem errV_snoc (pre : List Int) (x : Int) : errV (pre ++ [x]) = errV pre ++ [.int .i64 x] := by simp [errV]
theorem one_new1 (w : World) (a : Value) (t : TypeId) : ∀ (j : Nat) (u : Value), [a][j]? = some u → (w.alloc (.cells #[a] t)).cell? ((⟨w.heap.size, 0, none⟩ : Addr).add j) = some u
  | 0, _, h => by simp [Addr.add] at h ⊢; exact h
  | j + 1, _, h => by simp at h
theorem ownsRow_below' {A B : World} {base : Nat} {e : TypeId} {size : Nat} {v : Value} {n : Nat} {xs : List Value} (h : A.ownsRow base e size v n xs) (hb : Below A.heap.size A B) : B.ownsRow base e size v n xs :=
  h.kept (grown_of_below hb) (by cases v.ownBlock <;> simp)

set_option maxHeartbeats 4000000 in
set_option maxRecDepth 100000 in
theorem transform_plain (f : Nat) (ef : ∀ args wx, (callFunc f args).run Tryz.prog wx = .ok (.enter f args) wx) (E : ByteArray → Int) (g n c : Nat) (xs : List ByteArray) (w : World) (hn : n = xs.length) (hn80 : n ≤ 80) (hg : g < w.heap.size) (hx : ∀ i (h : i < xs.length), w.cell? ⟨g, i, none⟩ = some (.string xs[i]))
    (hcall : ∀ x ∈ xs, ∀ w3, Below w.heap.size w w3 → Calls Tryz.prog f #[.string x] w3 fun e w' => e = .returned (.int .i64 (E x)) ∧ Below w3.heap.size w3 w') :
    Calls Tryz.prog 153 #[.slice (some ⟨g, 0, none⟩) n c, .func (.func f) #[] #[]] w fun e w' => ∃ v, e = .returned v ∧ w'.ownsRow w.heap.size 24 1 v n (errV (xs.map E)) ∧ Below w.heap.size w w' := by
  obtain ⟨i0, hi, hz0, hz1, hz2⟩ := info_parts Tryz.info24
  have hmk := fun w => run_makeSlice_owned (P := Tryz.prog) w w.heap.size 162 24 i0 (.int .i64 0) 1 Tryz.underlying162 hi hz0 hz1 .i64 .i64 n (by omega) (by rw [hz2]; omega) (by unfold maxLen; omega) (Nat.le_refl _)
  obtain ⟨w1, hmk1, hown1, hgr1⟩ := hmk w
  have Ck := Lib.hid hcall
  have Hn := Lib.hid hn; have Hx := Lib.hid hx; have Hown1 := Lib.hid hown1; have Hgr1 := Lib.hid hgr1
  clear hn hx hmk hown1 hgr1 hcall
  go_enter Tryz.func153, Tryz.ntmps153
  go_wp2_with fail
  go_loopw [5, 13] (fun v i wr => ∃ k : Nat, k ≤ n ∧ i = .int .i64 k ∧ wr.ownsRow w.heap.size 24 1 v k (errV ((xs.map E).take k)) ∧ Below w.heap.size w wr) (fun _ i _ => n - (intOf i).toNat)
  case atStart => exact ⟨0, Nat.zero_le _, rfl, Hown1.out, (Below.refl _ w).grown Hgr1.out (Nat.le_refl _) (fun j hj => by cases hj)⟩
  case round =>
    obtain ⟨k, hk, rfl, hrow, hbl⟩ := hrel
    by_cases hlt : k < n
    · have hkx : k < xs.length := by have := Hn.out; omega
      have hbr := hbl.size
      have c0 := (hbl.cell (p := ⟨g, k, none⟩) hg).trans (Hx.out k hkx)
      have hsn : (xs.map E).take (k + 1) = (xs.map E).take k ++ [E xs[k]] := by rw [List.take_succ_eq_append_getElem (by simpa using hkx)]; simp
      have ck := Ck.out xs[k] (List.getElem_mem hkx) wr hbl
      have Hsn := Lib.hid hsn; clear hsn
      have Hrow := Lib.hid hrow; have Hbl := Lib.hid hbl; clear hrow hbl
      obtain ⟨x, hxk⟩ : ∃ x, xs[k] = x := ⟨_, rfl⟩
      rw [hxk] at c0 Hsn ck
      obtain ⟨ev, hev⟩ : ∃ ev, E x = ev := ⟨_, rfl⟩
      rw [hev] at Hsn ck
      clear hxk hev
      have CK := Lib.hid ck; clear ck
      go_wp2_with (first
        | (go_at_fn f; refine (CK.out).mono ?_; rintro e w2 ⟨rfl, hb2⟩; have HB2 := Lib.hid hb2; clear hb2; have hs2 := HB2.out.size; have HO2 := Lib.hid (ownsRow_below' Hrow.out HB2.out))
        | (at_builtin; refine wpList_append_own _ rfl _ _ 162 rfl w.heap.size 24 i0 (.int .i64 0) 1 8 Tryz.underlying162 hi hz0 hz1 hz2 rfl (by decide) _ _ _ rfl (HO2.out.alloc _) ⟨w2.heap.size, 0, none⟩ 1 1 [.int .i64 ev] rfl rfl (one_new1 _ _ _) (by simp [Value.oneCell']) (by unfold maxLen; omega) (by omega) (by simp; omega) ?_; intro v' w3 hown' hgrow _; have HN := Lib.hid (And.intro hown' hgrow); clear hown' hgrow))
      have hbig : Below w.heap.size w w3 := ((Hbl.out.trans (HB2.out.mono hbr)).alloc (by omega) _).grown HN.out.2 (by simp; omega) (fun j hj => (HO2.out.lt j hj).1)
      have hnew : w3.ownsRow w.heap.size 24 1 v' (k + 1) (errV ((xs.map E).take (k + 1))) := by rw [Hsn.out, errV_snoc]; exact HN.out.1
      have Hnew := Lib.hid hnew
      have Hbig := Lib.hid hbig
      clear hbig hnew
      go_roundw
      case rel => exact ⟨k + 1, by omega, by go_num, Hnew.out, Hbig.out⟩
      case measure => simp [intOf]; omega
    · have hkn : k = n := by omega
      rw [List.take_of_length_le (by have := Hn.out; simp; omega)] at hrow
      have Hrow2 := Lib.hid hrow
      have Hbl := Lib.hid hbl
      clear hrow hbl
      subst hkn
      go_wp2
      go_ret
      exact ⟨_, rfl, Hrow2.out, Hbl.out⟩

set_option maxHeartbeats 4000000 in
set_option maxRecDepth 100000 in
theorem transform_bound (f : Nat) (ef : ∀ args wx, (callFunc f args).run Tryz.prog wx = .ok (.enter f args) wx) (p : Addr) (E : ByteArray → Int) (g n c : Nat) (xs : List ByteArray) (w : World) (hn : n = xs.length) (hn80 : n ≤ 80) (hg : g < w.heap.size) (hx : ∀ i (h : i < xs.length), w.cell? ⟨g, i, none⟩ = some (.string xs[i]))
    (hcall : ∀ x ∈ xs, ∀ w3, Below w.heap.size w w3 → Calls Tryz.prog f #[.string x, .pointer (some p)] w3 fun e w' => e = .returned (.int .i64 (E x)) ∧ Below w3.heap.size w3 w') :
    Calls Tryz.prog 153 #[.slice (some ⟨g, 0, none⟩) n c, .func (.func f) #[] #[.pointer (some p)]] w fun e w' => ∃ v, e = .returned v ∧ w'.ownsRow w.heap.size 24 1 v n (errV (xs.map E)) ∧ Below w.heap.size w w' := by
  obtain ⟨i0, hi, hz0, hz1, hz2⟩ := info_parts Tryz.info24
  have hmk := fun w => run_makeSlice_owned (P := Tryz.prog) w w.heap.size 162 24 i0 (.int .i64 0) 1 Tryz.underlying162 hi hz0 hz1 .i64 .i64 n (by omega) (by rw [hz2]; omega) (by unfold maxLen; omega) (Nat.le_refl _)
  obtain ⟨w1, hmk1, hown1, hgr1⟩ := hmk w
  have Ck := Lib.hid hcall
  have Hn := Lib.hid hn; have Hx := Lib.hid hx; have Hown1 := Lib.hid hown1; have Hgr1 := Lib.hid hgr1
  clear hn hx hmk hown1 hgr1 hcall
  go_enter Tryz.func153, Tryz.ntmps153
  go_wp2_with fail
  go_loopw [5, 13] (fun v i wr => ∃ k : Nat, k ≤ n ∧ i = .int .i64 k ∧ wr.ownsRow w.heap.size 24 1 v k (errV ((xs.map E).take k)) ∧ Below w.heap.size w wr) (fun _ i _ => n - (intOf i).toNat)
  case atStart => exact ⟨0, Nat.zero_le _, rfl, Hown1.out, (Below.refl _ w).grown Hgr1.out (Nat.le_refl _) (fun j hj => by cases hj)⟩
  case round =>
    obtain ⟨k, hk, rfl, hrow, hbl⟩ := hrel
    by_cases hlt : k < n
    · have hkx : k < xs.length := by have := Hn.out; omega
      have hbr := hbl.size
      have c0 := (hbl.cell (p := ⟨g, k, none⟩) hg).trans (Hx.out k hkx)
      have hsn : (xs.map E).take (k + 1) = (xs.map E).take k ++ [E xs[k]] := by rw [List.take_succ_eq_append_getElem (by simpa using hkx)]; simp
      have ck := Ck.out xs[k] (List.getElem_mem hkx) wr hbl
      have Hsn := Lib.hid hsn; clear hsn
      have Hrow := Lib.hid hrow; have Hbl := Lib.hid hbl; clear hrow hbl
      obtain ⟨x, hxk⟩ : ∃ x, xs[k] = x := ⟨_, rfl⟩
      rw [hxk] at c0 Hsn ck
      obtain ⟨ev, hev⟩ : ∃ ev, E x = ev := ⟨_, rfl⟩
      rw [hev] at Hsn ck
      clear hxk hev
      have CK := Lib.hid ck; clear ck
      go_wp2_with (first
        | (go_at_fn f; refine (CK.out).mono ?_; rintro e w2 ⟨rfl, hb2⟩; have HB2 := Lib.hid hb2; clear hb2; have hs2 := HB2.out.size; have HO2 := Lib.hid (ownsRow_below' Hrow.out HB2.out))
        | (at_builtin; refine wpList_append_own _ rfl _ _ 162 rfl w.heap.size 24 i0 (.int .i64 0) 1 8 Tryz.underlying162 hi hz0 hz1 hz2 rfl (by decide) _ _ _ rfl (HO2.out.alloc _) ⟨w2.heap.size, 0, none⟩ 1 1 [.int .i64 ev] rfl rfl (one_new1 _ _ _) (by simp [Value.oneCell']) (by unfold maxLen; omega) (by omega) (by simp; omega) ?_; intro v' w3 hown' hgrow _; have HN := Lib.hid (And.intro hown' hgrow); clear hown' hgrow))
      have hbig : Below w.heap.size w w3 := ((Hbl.out.trans (HB2.out.mono hbr)).alloc (by omega) _).grown HN.out.2 (by simp; omega) (fun j hj => (HO2.out.lt j hj).1)
      have hnew : w3.ownsRow w.heap.size 24 1 v' (k + 1) (errV ((xs.map E).take (k + 1))) := by rw [Hsn.out, errV_snoc]; exact HN.out.1
      have Hnew := Lib.hid hnew
      have Hbig := Lib.hid hbig
      clear hbig hnew
      go_roundw
      case rel => exact ⟨k + 1, by omega, by go_num, Hnew.out, Hbig.out⟩
      case measure => simp [intOf]; omega
    · have hkn : k = n := by omega
      rw [List.take_of_length_le (by have := Hn.out; simp; omega)] at hrow
      have Hrow2 := Lib.hid hrow
      have Hbl := Lib.hid hbl
      clear hrow hbl
      subst hkn
      go_wp2
      go_ret
      exact ⟨_, rfl, Hrow2.out, Hbl.out⟩

end Go.Proofs.YtpbegoflpfdajaaGreatDoor

namespace Go.Proofs.YtpbegoflpfdajaaGreatDoor
open Go.RowKit
theorem errV_cells {W : World} {D : Nat} {g cap n : Nat} {l : List Int} (h : W.ownsRow D 24 1 (.slice (some ⟨g, 0, none⟩) n cap) n (errV l)) : ∀ i (h : i < l.length), W.cell? ⟨g, i, none⟩ = some (.int .i64 l[i]) := fun i hi => by
  have := h.cells (g := g) rfl i (.int .i64 l[i]) (by simp [errV, hi])
  rw [show ((⟨g, 0, none⟩ : Addr).add i) = ⟨g, i, none⟩ from by rw [Addr.add_mid, Nat.zero_add]] at this
  exact this

set_option maxHeartbeats 1000000 in
theorem firstOf_plain (f : Nat) (ef : ∀ args wx, (callFunc f args).run Tryz.prog wx = .ok (.enter f args) wx) (E : ByteArray → Int) (g n c : Nat) (xs : List ByteArray) (w : World) (hn : n + 1 = xs.length) (hn80 : n + 1 ≤ 80) (hg : g < w.heap.size) (hx : ∀ i (h : i < xs.length), w.cell? ⟨g, i, none⟩ = some (.string xs[i]))
    (hcall : ∀ x ∈ xs, ∀ w3, Below w.heap.size w w3 → Calls Tryz.prog f #[.string x] w3 fun e w' => e = .returned (.int .i64 (E x)) ∧ Below w3.heap.size w3 w') :
    Calls Tryz.prog 85 #[.func (.func f) #[] #[], .slice (some ⟨g, 0, none⟩) (n + 1) c] w fun e w' => e = .returned (.int .i64 (firstE (xs.map E))) ∧ Below w.heap.size w w' := by
  have Ct := Lib.hid (transform_plain f ef E g (n + 1) c xs w hn hn80 hg hx hcall)
  have Hl := Lib.hid (show (xs.map E).length = n + 1 by rw [List.length_map]; exact hn.symm)
  clear hx hcall hn
  go_enter Tryz.func85, Tryz.ntmps85
  go_wp2_with (first
    | (go_at_call 153; (with_reducible refine (Ct.out).mono ?_); rintro e w1 ⟨v, rfl, hrow, hb1⟩; have HR := Lib.hid hrow; have HB1 := Lib.hid hb1; clear hrow hb1; obtain ⟨g1, cap1, rfl⟩ := ownsRow_succ HR.out)
    | (go_at_call 88; (with_reducible refine (firstError_any g1 (n + 1) cap1 (xs.map E) (Hl.out) (by omega) w1 (errV_cells HR.out)).mono ?_); rintro e w2 ⟨rfl, rfl⟩))
  go_ret
  exact ⟨rfl, HB1.out⟩

set_option maxHeartbeats 1000000 in
theorem firstOf_bound (f : Nat) (ef : ∀ args wx, (callFunc f args).run Tryz.prog wx = .ok (.enter f args) wx) (p : Addr) (E : ByteArray → Int) (g n c : Nat) (xs : List ByteArray) (w : World) (hn : n + 1 = xs.length) (hn80 : n + 1 ≤ 80) (hg : g < w.heap.size) (hx : ∀ i (h : i < xs.length), w.cell? ⟨g, i, none⟩ = some (.string xs[i]))
    (hcall : ∀ x ∈ xs, ∀ w3, Below w.heap.size w w3 → Calls Tryz.prog f #[.string x, .pointer (some p)] w3 fun e w' => e = .returned (.int .i64 (E x)) ∧ Below w3.heap.size w3 w') :
    Calls Tryz.prog 85 #[.func (.func f) #[] #[.pointer (some p)], .slice (some ⟨g, 0, none⟩) (n + 1) c] w fun e w' => e = .returned (.int .i64 (firstE (xs.map E))) ∧ Below w.heap.size w w' := by
  have Ct := Lib.hid (transform_bound f ef p E g (n + 1) c xs w hn hn80 hg hx hcall)
  have Hl := Lib.hid (show (xs.map E).length = n + 1 by rw [List.length_map]; exact hn.symm)
  clear hx hcall hn
  go_enter Tryz.func85, Tryz.ntmps85
  go_wp2_with (first
    | (go_at_call 153; (with_reducible refine (Ct.out).mono ?_); rintro e w1 ⟨v, rfl, hrow, hb1⟩; have HR := Lib.hid hrow; have HB1 := Lib.hid hb1; clear hrow hb1; obtain ⟨g1, cap1, rfl⟩ := ownsRow_succ HR.out)
    | (go_at_call 88; (with_reducible refine (firstError_any g1 (n + 1) cap1 (xs.map E) (Hl.out) (by omega) w1 (errV_cells HR.out)).mono ?_); rintro e w2 ⟨rfl, rfl⟩))
  go_ret
  exact ⟨rfl, HB1.out⟩

end Go.Proofs.YtpbegoflpfdajaaGreatDoor

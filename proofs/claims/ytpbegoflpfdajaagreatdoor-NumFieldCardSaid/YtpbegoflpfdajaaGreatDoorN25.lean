/- WHAT IS PROVED: contracts of functions of the numbers package and laws for them, used by the last text of this claim. CONDITIONS: stated at each theorem. -/
import Derived.Test.YtpbegoflpfdajaaGreatDoorN24
import Derived.Test.YtpbegoflpfdajaaGreatDoorN10
namespace Go.Proofs.YtpbegoflpfdajaaGreatDoor
open Go.RowKit

theorem gcd_lt {a b : Nat} (ha : a < bb ^ 29) (hb : b < bb ^ 29) : Nat.gcd a b < bb ^ 30 := by
  have h : bb ^ 29 ≤ bb ^ 30 := pow_mono (by omega)
  rcases Nat.eq_zero_or_pos b with rfl | hp
  · rw [Nat.gcd_zero_right]; omega
  · exact Nat.lt_of_le_of_lt (Nat.gcd_le_right _ hp) (by omega)
theorem up29 {a : Nat} (ha : a < bb ^ 14) : a < bb ^ 29 := Nat.lt_of_lt_of_le ha (pow_mono (by omega))
set_option maxHeartbeats 1000000 in
theorem gcdF_any (n1 : Nat) (s1 : Bool) (n2 : Nat) (s2 : Bool) (h1 : n1 < bb ^ 29) (h2 : n2 < bb ^ 29) (w : World) :
    Calls Tryz.prog 95 #[.agg (sgL n1 s1).toArray, .agg (sgL n2 s2).toArray] w fun e w' => e = .returned (.agg (sgL (Nat.gcd n1 n2) false).toArray) ∧ Below w.heap.size w w' := by
  have hg : Nat.gcd n1 n2 < bb ^ 30 := gcd_lt h1 h2
  have Cg := Lib.hid (fun w => gcd_any n1 n2 h1 h2 w)
  have cn := fun w => number_any (Nat.gcd n1 n2) false hg w
  change ∀ w, Calls Tryz.prog 93 #[.agg (mgL (Nat.gcd n1 n2)).toArray, .bool false] w (fun e w' => e = .returned (.agg (sgL (Nat.gcd n1 n2) false).toArray) ∧ Below w.heap.size w w') at cn
  have Cn := Lib.hid cn
  have Hb := Lib.hid (show Below w.heap.size w (((w.alloc (.cells (sgL n1 s1).toArray 88)).alloc (.cells (sgL n2 s2).toArray 88)).alloc (.cells (sgL 0 false).toArray 88)) from (((Below.refl w.heap.size w).alloc (Nat.le_refl _) _).alloc (by simp) _).alloc (by simp; omega) _)
  have Hr1 := Lib.hid (show (((w.alloc (.cells (sgL n1 s1).toArray 88)).alloc (.cells (sgL n2 s2).toArray 88)).alloc (.cells (sgL 0 false).toArray 88)).rangeAt w.heap.size 0 (mgL n1) from (range_sg (World.rangeAt_alloc (World.rangeAt_alloc (range_new w (sgL n1 s1) 88) _) _)).1)
  have Hr2 := Lib.hid (show (((w.alloc (.cells (sgL n1 s1).toArray 88)).alloc (.cells (sgL n2 s2).toArray 88)).alloc (.cells (sgL 0 false).toArray 88)).rangeAt (w.heap.size + 1) 0 (mgL n2) from (range_sg (World.rangeAt_alloc (range_at (by simp) (sgL n2 s2) 88) _)).1)
  have Ht := Lib.hid (show (((w.alloc (.cells (sgL n1 s1).toArray 88)).alloc (.cells (sgL n2 s2).toArray 88)).alloc (.cells (sgL 0 false).toArray 88)).there (w.heap.size + 2) 0 31 from there_at (by simp) _ 88 (by rw [sgL_len]))
  clear cn hg h1 h2
  go_enter Tryz.func95, Tryz.ntmps95
  go_wp2_with (first
    | ((with_reducible refine al_zb 88 _ (w.heap.size + 2) ?_ ?_ z88 ?_); (· exact ⟨rfl, rfl⟩); · (simp; done))
    | ((with_reducible refine ld86 w.heap.size 0 n1 ?_ ?_ ?_); (· exact ⟨rfl, _, rfl, rfl⟩); · exact Hr1.out)
    | ((with_reducible refine ld86 (w.heap.size + 1) 0 n2 ?_ ?_ ?_); (· exact ⟨rfl, _, rfl, rfl⟩); · exact Hr2.out)
    | (go_at_call 96; (with_reducible refine (Cg.out _).mono ?_); rintro e w1 ⟨rfl, hb1⟩; have HB1 := Lib.hid hb1; clear hb1)
    | (go_at_call 93; (with_reducible refine (Cn.out _).mono ?_); rintro e w2 ⟨rfl, hb2⟩; have HB2 := Lib.hid (HB1.out.trans (hb2.mono HB1.out.size)); clear hb2)
    | ((with_reducible refine st88 (w.heap.size + 2) 0 (Nat.gcd n1 n2) false ?_ ?_ ?_); (· exact ⟨rfl, _, _, rfl, rfl, rfl⟩); · exact there_keep Ht.out HB2.out))

  refine ret88 Tryz.results95 (w.heap.size + 2) 0 rfl (Nat.gcd n1 n2) false (range_set (there_keep Ht.out HB2.out) (by rw [sgL_len])) rfl ⟨rfl, ?_⟩
  exact below_set (Hb.out.trans (HB2.out.mono Hb.out.size)) (by omega) _ _
theorem gcd_enter (args : Array Value) (w : World) : (callFunc 95 args).run Tryz.prog w = .ok (.enter 95 args) w := enters_of Tryz.func95 (by kernel_rfl) rfl _ _

/-- gcd, of two integers -/
theorem gcd_ok (s1 s2 : ByteArray) (h1 : ckL s1.data.toList = 0) (h2 : ckL s2.data.toList = 0) (w : World) (hg : Gl w) :
    Calls Tryz.prog 33 #[.string s1, .string s2] w fun e w' => e = .returned (resT (Nat.gcd (intM s1.data.toList) (intM s2.data.toList)) (false)) ∧ Below w.heap.size w w' := by
  have c := integers_ok 95 gcd_enter s1 s2 h1 h2 (Nat.gcd (intM s1.data.toList) (intM s2.data.toList)) (false) (gcd_lt (up29 (intM_small _ h1)) (up29 (intM_small _ h2))) (fun w _ => gcdF_any _ _ _ _ (up29 (intM_small _ h1)) (up29 (intM_small _ h2)) w) w hg
  unfold resT
  obtain ⟨T, hT⟩ : ∃ T : ByteArray, (if digN (Nat.gcd (intM s1.data.toList) (intM s2.data.toList)) ≤ 120 then (⟨(sgText (Nat.gcd (intM s1.data.toList) (intM s2.data.toList)) (false)).toArray⟩ : ByteArray) else ⟨#[]⟩) = T := ⟨_, rfl⟩
  obtain ⟨E, hE⟩ : ∃ E, fitsV (Nat.gcd (intM s1.data.toList) (intM s2.data.toList)) = E := ⟨_, rfl⟩
  rw [hT, hE] at c ⊢
  have C := Lib.hid c; clear c hT hE h1 h2 hg
  go_enter Tryz.func33, Tryz.ntmps33
  go_wp2_with (go_at_call 77; (with_reducible refine (C.out).mono ?_); rintro e w1 ⟨rfl, hb1⟩)
  go_ret2
  exact ⟨rfl, hb1⟩
end Go.Proofs.YtpbegoflpfdajaaGreatDoor

namespace Go.Proofs.YtpbegoflpfdajaaGreatDoor
open Go.RowKit

theorem mapM115 (w : World) : (Array.mapM (fun (f : Field) => do let z ← Go.sizeOf f.type; pure (f.offset, z)) #[({ name := "upper", type := 88, offset := 0, embedded := false, tag := "", pkgPath := "entail/num", byteOffset := 0 } : Field), { name := "lower", type := 88, offset := 31, embedded := false, tag := "", pkgPath := "entail/num", byteOffset := 124 }] : Sem (Array (Nat × Nat))).run Tryz.prog w = .ok #[(0, 31), (31, 31)] w := by
  simp [Tryz.sizeOf88, Result.andThen]
theorem build115 (p : Nat) (s : Bool) (q : Nat) (t : Bool) (w : World) : (Instr.build 115 #[(0, .agg (sgL p s).toArray), (1, .agg (sgL q t).toArray)]).run Tryz.prog w = .ok (.agg (frL p s q t).toArray) w := by
  unfold Instr.build
  rw [Sem.run_bind, z115, Result.andThen_ok]
  simp only [Sem.run_bind, run_underlying Tryz.underlying115, Result.andThen_ok]
  rw [mapM115, Result.andThen_ok]
  have h1 := splice [] (sgL 0 false) (sgL 0 false) (sgL p s) (by rw [sgL_len, sgL_len])
  have h2 := splice (sgL p s) (sgL 0 false) [] (sgL q t) (by rw [sgL_len, sgL_len])
  simp only [List.nil_append, List.append_nil, List.length_nil, sgL_len] at h1 h2
  have e1 : (Value.agg (frL 0 false 0 false).toArray).cells = (sgL 0 false ++ sgL 0 false).toArray := by unfold frL; rfl
  have e2 : (Value.agg (sgL p s).toArray).cells = (sgL p s).toArray := rfl
  have e3 : (Value.agg (sgL q t).toArray).cells = (sgL q t).toArray := rfl
  have f : Instr.fill (fun x => [(0, 31), (31, 31)][x]?) (Value.agg (frL 0 false 0 false).toArray).cells [(0, .agg (sgL p s).toArray), (1, .agg (sgL q t).toArray)] = some (frL p s q t).toArray := by
    rw [e1]
    unfold Instr.fill
    simp only [List.getElem?_cons_zero, e2, sgL_size]
    rw [if_neg (by simp [sgL_len])]
    rw [h1]
    unfold Instr.fill
    simp only [List.getElem?_cons_succ, List.getElem?_cons_zero, e3, sgL_size]
    rw [if_neg (by simp [sgL_len])]
    rw [h2]
    unfold Instr.fill frL
    rfl
  simp [f]
section
variable {ops : Array Oper} {rest : List Oper} {op : Oper} {a : Act} {w : World} {Q : Exit → Act → World → Prop}
theorem b115 (p : Nat) (s : Bool) (q : Nat) (t : Bool) (ho : op.guard = none ∧ ∃ x y, op.op = .build 115 #[(0, x), (1, y)] ∧ a.eval x = .agg (sgL p s).toArray ∧ a.eval y = .agg (sgL q t).toArray)
    (h : wpList Tryz.prog ops Q rest (a.put op.dst (.agg (frL p s q t).toArray)) w) : wpList Tryz.prog ops Q (op :: rest) a w :=
  let ⟨hg, x, y, h1, h2, h3⟩ := ho
  wpList_plain hg fun K hK => by
    unfold Oper.wp execOp
    simp only [h1, List.map_toArray, List.map_cons, List.map_nil, h2, h3]
    rw [run_next (build115 p s q t w)]
    exact hK _ _ h
end
end Go.Proofs.YtpbegoflpfdajaaGreatDoor

namespace Go.Proofs.YtpbegoflpfdajaaGreatDoor
open Go.RowKit

/-- the two parts of a fraction's text -/
def upT (l : List UInt8) : List UInt8 := (Lib.cut l [47]).1
def loT (l : List UInt8) : List UInt8 := (Lib.cut l [47]).2.1
theorem cut_any (s : ByteArray) (hs : s.size < 4294967281) (w : World) (hg : Gl w) :
    Calls Tryz.prog 113 #[.string s, .string ⟨#[47]⟩] w fun e w' => e = .returned (.tuple #[.string ⟨(upT s.data.toList).toArray⟩, .string ⟨(loT s.data.toList).toArray⟩, .bool (Lib.cut s.data.toList [47]).2.2]) ∧ Below w.heap.size w w' := by
  obtain ⟨m, hm⟩ := hg.ml
  refine (Tryz.strings_Cut s ⟨#[47]⟩ m w hs hm).mono ?_
  rintro e w' ⟨rfl, n, rfl⟩
  exact ⟨rfl, below_drewN (Below.refl _ _)⟩
set_option maxHeartbeats 1000000 in
set_option maxRecDepth 20000 in
theorem parseFraction_any (s : ByteArray) (hs : s.size < 4294967281) (h1 : ckL (upT s.data.toList) = 0) (h2 : ckL (loT s.data.toList) = 0) (w : World) (hg : Gl w) :
    Calls Tryz.prog 107 #[.string s] w fun e w' => e = .returned (.agg (frL (intM (upT s.data.toList)) (intS (upT s.data.toList)) (intM (loT s.data.toList)) (intS (loT s.data.toList))).toArray) ∧ Below w.heap.size w w' := by
  have hb0 : Below w.heap.size w (w.alloc (.cells (frL 0 false 0 false).toArray 115)) := (Below.refl _ _).alloc (Nat.le_refl _) _
  have HB0 := Lib.hid hb0
  have HG0 := Lib.hid (hg.keep hb0)
  have Ht := Lib.hid (show (w.alloc (.cells (frL 0 false 0 false).toArray 115)).there w.heap.size 0 62 from there_at rfl _ 115 (by rw [frL_len]))
  have cc := fun w g => cut_any s hs w g
  have p1 := fun w g => parse_ck ⟨(upT s.data.toList).toArray⟩ h1 w g
  have p2 := fun w g => parse_ck ⟨(loT s.data.toList).toArray⟩ h2 w g
  change ∀ w, Gl w → Calls Tryz.prog 72 _ w (fun e w' => e = .returned (.agg (sgL (intM (upT s.data.toList)) (intS (upT s.data.toList))).toArray) ∧ Below w.heap.size w w') at p1
  change ∀ w, Gl w → Calls Tryz.prog 72 _ w (fun e w' => e = .returned (.agg (sgL (intM (loT s.data.toList)) (intS (loT s.data.toList))).toArray) ∧ Below w.heap.size w w') at p2
  obtain ⟨fb, hfb⟩ : ∃ fb, (Lib.cut s.data.toList [47]).2.2 = fb := ⟨_, rfl⟩
  rw [hfb] at cc
  obtain ⟨U, hU⟩ : ∃ U : ByteArray, ⟨(upT s.data.toList).toArray⟩ = U := ⟨_, rfl⟩
  obtain ⟨V, hV⟩ : ∃ V : ByteArray, ⟨(loT s.data.toList).toArray⟩ = V := ⟨_, rfl⟩
  rw [hU] at cc p1
  rw [hV] at cc p2
  obtain ⟨a, ha⟩ : ∃ a, intM (upT s.data.toList) = a := ⟨_, rfl⟩
  obtain ⟨b, hb⟩ : ∃ b, intS (upT s.data.toList) = b := ⟨_, rfl⟩
  obtain ⟨c, hc⟩ : ∃ c, intM (loT s.data.toList) = c := ⟨_, rfl⟩
  obtain ⟨d, hd⟩ : ∃ d, intS (loT s.data.toList) = d := ⟨_, rfl⟩
  rw [ha, hb] at p1 ⊢
  rw [hc, hd] at p2 ⊢
  have Cc := Lib.hid cc; have P1 := Lib.hid p1; have P2 := Lib.hid p2
  clear cc p1 p2 h1 h2 hs hg hb0 hU hV ha hb hc hd hfb
  go_enter Tryz.func107, Tryz.ntmps107
  go_wp2_with (first
    | ((with_reducible refine al_zb 115 _ w.heap.size ?_ ?_ z115 ?_); (· exact ⟨rfl, rfl⟩); · rfl)
    | (go_at_call 113; (with_reducible refine (Cc.out _ HG0.out).mono ?_); rintro e w1 ⟨rfl, hb1⟩; have HB1 := Lib.hid hb1; have HG1 := Lib.hid (HG0.out.keep hb1); clear hb1)
    | (go_at_call 72; (with_reducible refine (P1.out _ HG1.out).mono ?_); rintro e w2 ⟨rfl, hb2⟩; have HB2 := Lib.hid (HB1.out.trans (hb2.mono HB1.out.size)); have HG2 := Lib.hid (HG1.out.keep hb2); clear hb2 HG1)
    | (go_at_call 72; (with_reducible refine (P2.out _ HG2.out).mono ?_); rintro e w3 ⟨rfl, hb3⟩; have HB3 := Lib.hid (HB2.out.trans (hb3.mono HB2.out.size)); clear hb3 HG2)
    | ((with_reducible refine b115 a b c d ?_ ?_); (· exact ⟨rfl, _, _, rfl, rfl, rfl⟩))
    | ((with_reducible refine st115 w.heap.size 0 a b c d ?_ ?_ ?_); (· exact ⟨rfl, _, _, rfl, rfl, rfl⟩); · exact there_keep Ht.out HB3.out))
  refine ret115 Tryz.results107 w.heap.size 0 rfl a b c d (range_set (there_keep Ht.out HB3.out) (by rw [frL_len])) rfl ⟨rfl, ?_⟩
  exact below_set (HB0.out.trans (HB3.out.mono HB0.out.size)) (Nat.le_refl _) _ _
end Go.Proofs.YtpbegoflpfdajaaGreatDoor

namespace Go.Proofs.YtpbegoflpfdajaaGreatDoor
open Go.RowKit

/-- a new magnitude's block; two of them -/
def new1 (w : World) (a : Nat) : World := (w.alloc (.cells (mgL 0).toArray 86)).setCells w.heap.size 0 (mgL a)
def new2 (w : World) (a b : Nat) : World := (((w.alloc (.cells (mgL 0).toArray 86)).alloc (.cells (mgL 0).toArray 86)).setCells w.heap.size 0 (mgL a)).setCells (w.heap.size + 1) 0 (mgL b)
theorem new1_old (w : World) (a : Nat) : Below w.heap.size w (new1 w a) := below_set ((Below.refl _ _).alloc (Nat.le_refl _) _) (Nat.le_refl _) _ _
theorem new1_at (w : World) (a : Nat) : (new1 w a).rangeAt w.heap.size 0 (mgL a) := range_set (there_at rfl _ 86 (by rw [mgL_len])) (by rw [mgL_len])
theorem new2_old (w : World) (a b : Nat) : Below w.heap.size w (new2 w a b) := below_set (below_set (((Below.refl _ _).alloc (Nat.le_refl _) _).alloc (by simp) _) (Nat.le_refl _) _ _) (by omega) _ _
theorem new2_at0 (w : World) (a b : Nat) : (new2 w a b).rangeAt w.heap.size 0 (mgL a) := range_setk (range_set (gd_there0 w) (by rw [mgL_len])) (by omega)
theorem range_frl {w : World} {b : Nat} {p : Nat} {s : Bool} {q : Nat} {t : Bool} (h : w.rangeAt b 0 (frL p s q t)) : w.rangeAt b 0 (mgL p) ∧ w.cell? ⟨b, 30, none⟩ = some (.bool s) ∧ w.rangeAt b 31 (mgL q) ∧ w.cell? ⟨b, 61, none⟩ = some (.bool t) := by
  unfold frL at h
  have h1 : w.rangeAt b 0 (sgL p s) := fun j v hv => h j v (by rw [List.getElem?_append_left (by have := (List.getElem?_eq_some_iff.1 hv).1; exact this)]; exact hv)
  have h2 : w.rangeAt b 31 (sgL q t) := fun j v hv => by
    have := h (31 + j) v (by rw [List.getElem?_append_right (by rw [sgL_len]; omega), sgL_len, Nat.add_sub_cancel_left]; exact hv)
    rwa [Nat.zero_add] at this
  obtain ⟨a, c⟩ := range_sg h1
  refine ⟨a, c, fun j v hv => h2 j v ?_, ?_⟩
  · unfold sgL; rw [List.getElem?_append_left (by have := (List.getElem?_eq_some_iff.1 hv).1; exact this)]; exact hv
  · have := h2 30 (.bool t) sgL_get
    exact this
end Go.Proofs.YtpbegoflpfdajaaGreatDoor

namespace Go.Proofs.YtpbegoflpfdajaaGreatDoor
open Go.RowKit

theorem yb115 {ops : Array Oper} {S : World → Prop} {op : Oper} {a : Act} (p : Nat) (s : Bool) (q : Nat) (t : Bool) (x y : Operand) (hw : Region.wanted op (yielded ops a.tmps) = true) (ho : op.op = .build 115 #[(0, x), (1, y)]) (hx : a.eval x = .agg (sgL p s).toArray) (hy : a.eval y = .agg (sgL q t).toArray) :
    YieldsIf Tryz.prog ops S op (.agg (frL p s q t).toArray) a := Or.inl ⟨hw, fun w _ => by
  have h := run_next (build115 p s q t w)
  unfold execOp
  simp only [ho]
  simpa [hx, hy] using h⟩
set_option maxHeartbeats 2000000 in
set_option maxRecDepth 20000 in
theorem reduced_any (p : Nat) (s : Bool) (q : Nat) (t : Bool) (hp : p < bb ^ 29) (hq : q < bb ^ 29) (h0 : 0 < q) (w : World) :
    Calls Tryz.prog 115 #[.agg (frL p s q t).toArray] w fun e w' => e = .returned (.agg (frL (p / Nat.gcd p q) (s && !decide (p / Nat.gcd p q = 0)) (q / Nat.gcd p q) false).toArray) ∧ Below w.heap.size w w' := by
  have hg0 : 0 < Nat.gcd p q := Nat.gcd_pos_of_pos_right _ h0
  have hgq : Nat.gcd p q < bb ^ 30 := gcd_lt hp hq
  have hp30 : p < bb ^ 30 := Nat.lt_of_lt_of_le hp (pow_mono (by omega))
  have hq30 : q < bb ^ 30 := Nat.lt_of_lt_of_le hq (pow_mono (by omega))
  have Cg := Lib.hid (fun w => gcd_any p q hp hq w)
  have Cu := Lib.hid (fun w => divide_all p (Nat.gcd p q) hp hgq hg0 w)
  have Cl := Lib.hid (fun w => divide_all q (Nat.gcd p q) hq hgq hg0 w)
  have Cn := Lib.hid (fun w => number_any (p / Nat.gcd p q) s (Nat.lt_of_le_of_lt (Nat.div_le_self _ _) hp30) w)
  have hlp : 0 < q / Nat.gcd p q := Nat.div_pos (Nat.gcd_le_right _ h0) hg0
  have cm := fun w => number_any (q / Nat.gcd p q) false (Nat.lt_of_le_of_lt (Nat.div_le_self _ _) hq30) w
  change ∀ w, Calls Tryz.prog 93 #[.agg (mgL (q / Nat.gcd p q)).toArray, .bool false] w (fun e w' => e = .returned (.agg (sgL (q / Nat.gcd p q) false).toArray) ∧ Below w.heap.size w w') at cm
  have Cm := Lib.hid cm
  obtain ⟨c, hc⟩ : ∃ c, Nat.gcd p q = c := ⟨_, rfl⟩
  rw [hc] at Cg Cu Cl Cn Cm ⊢
  obtain ⟨u, hu⟩ : ∃ u, p / c = u := ⟨_, rfl⟩
  obtain ⟨l, hl⟩ : ∃ l, q / c = l := ⟨_, rfl⟩
  obtain ⟨ru, hru⟩ : ∃ r, p % c = r := ⟨_, rfl⟩
  obtain ⟨rl, hrl⟩ : ∃ r, q % c = r := ⟨_, rfl⟩
  rw [hu] at Cu Cn ⊢
  rw [hl] at Cl Cm ⊢
  rw [hru] at Cu
  rw [hrl] at Cl
  have hF := range_frl (World.rangeAt_alloc (range_new w (frL p s q t) 115) (.cells (frL 0 false 0 false).toArray 115))
  have HF := Lib.hid hF
  have Hb := Lib.hid (show Below w.heap.size w ((w.alloc (.cells (frL p s q t).toArray 115)).alloc (.cells (frL 0 false 0 false).toArray 115)) from ((Below.refl w.heap.size w).alloc (Nat.le_refl _) _).alloc (by simp) _)
  have Ht := Lib.hid (show ((w.alloc (.cells (frL p s q t).toArray 115)).alloc (.cells (frL 0 false 0 false).toArray 115)).there (w.heap.size + 1) 0 62 from there_at (by simp) _ 115 (by rw [frL_len]))
  clear cm hc hu hl hru hrl hF hp hq h0 hg0 hgq hq30 hp30 hlp
  go_enter Tryz.func115, Tryz.ntmps115
  go_wp2_with (first
    | ((with_reducible refine al_zb 115 _ (w.heap.size + 1) ?_ ?_ z115 ?_); (· exact ⟨rfl, rfl⟩); · (simp; done))
    | ((with_reducible refine ld86 w.heap.size 0 p ?_ ?_ ?_); (· exact ⟨rfl, _, rfl, rfl⟩); · first | exact HF.out.1 | exact range_keep HF.out.1 K1.out)
    | ((with_reducible refine ld86 w.heap.size 31 q ?_ ?_ ?_); (· exact ⟨rfl, _, rfl, rfl⟩); · first | exact HF.out.2.2.1 | exact range_keep HF.out.2.2.1 K2.out)
    | (go_at_call 96; (with_reducible refine (Cg.out _).mono ?_); rintro e w1 ⟨rfl, hb1⟩; have K1 := Lib.hid (hb1.trans ((new1_old w1 c).mono hb1.size)); have R1 := Lib.hid (new1_at w1 c); clear hb1)
    | ((with_reducible refine al_zb 86 _ w1.heap.size ?_ ?_ z86 ?_); (· exact ⟨rfl, rfl⟩); · rfl)
    | ((with_reducible refine st86 w1.heap.size 0 c ?_ ?_ ?_); (· exact ⟨rfl, _, _, rfl, rfl, rfl⟩); · exact there_at rfl _ 86 (by rw [mgL_len]))
    | ((with_reducible refine ld86 w1.heap.size 0 c ?_ ?_ ?_); (· exact ⟨rfl, _, rfl, rfl⟩); · first | exact R1.out | exact range_keep R1.out J2.out)
    | (go_at_call 154; (with_reducible refine (Cu.out _).mono ?_); rintro e w2 ⟨rfl, hb2⟩; have J2 := Lib.hid (hb2.trans ((new2_old w2 u ru).mono hb2.size)); have K2 := Lib.hid (K1.out.trans (J2.out.mono K1.out.size)); have R2 := Lib.hid (new2_at0 w2 u ru); have Z2 := Lib.hid (Nat.le_trans K1.out.size hb2.size); clear hb2 Cu)
    | ((with_reducible refine al_zb 86 _ w2.heap.size ?_ ?_ z86 ?_); (· exact ⟨rfl, rfl⟩); · rfl)
    | ((with_reducible refine al_zb 86 _ (w2.heap.size + 1) ?_ ?_ z86 ?_); (· exact ⟨rfl, rfl⟩); · (simp; done))
    | ((with_reducible refine st86 w2.heap.size 0 u ?_ ?_ ?_); (· exact ⟨rfl, _, _, rfl, rfl, rfl⟩); · exact gd_there0 w2)
    | ((with_reducible refine st86 (w2.heap.size + 1) 0 ru ?_ ?_ ?_); (· exact ⟨rfl, _, _, rfl, rfl, rfl⟩); · exact World.there_setCells (gd_there1 w2) _ _ _)
    | (go_at_call 154; (with_reducible refine (Cl.out _).mono ?_); rintro e w3 ⟨rfl, hb3⟩; have J3 := Lib.hid (hb3.trans ((new2_old w3 l rl).mono hb3.size)); have K3 := Lib.hid (K2.out.trans (J3.out.mono K2.out.size)); have R3 := Lib.hid (new2_at0 w3 l rl); have Z3 := Lib.hid (Nat.le_trans K2.out.size hb3.size); clear hb3 Cl)
    | ((with_reducible refine al_zb 86 _ w3.heap.size ?_ ?_ z86 ?_); (· exact ⟨rfl, rfl⟩); · rfl)
    | ((with_reducible refine al_zb 86 _ (w3.heap.size + 1) ?_ ?_ z86 ?_); (· exact ⟨rfl, rfl⟩); · (simp; done))
    | ((with_reducible refine st86 w3.heap.size 0 l ?_ ?_ ?_); (· exact ⟨rfl, _, _, rfl, rfl, rfl⟩); · exact gd_there0 w3)
    | ((with_reducible refine st86 (w3.heap.size + 1) 0 rl ?_ ?_ ?_); (· exact ⟨rfl, _, _, rfl, rfl, rfl⟩); · exact World.there_setCells (gd_there1 w3) _ _ _))

  try simp only [Act.put, List.setIfInBounds_toArray, List.set_cons_zero, List.set_cons_succ]
  have HBx := Lib.hid (Hb.out.trans (K3.out.mono Hb.out.size))
  have z2 : w.heap.size + 2 ≤ w2.heap.size := by simpa using Z2.out
  have z3 : w.heap.size + 2 ≤ w3.heap.size := by simpa using Z3.out
  refine wp_region_held_drew (S := (fun w' => Below w.heap.size w w' ∧ w'.rangeAt w2.heap.size 0 (mgL u) ∧ w'.cell? ⟨w.heap.size, 30, none⟩ = some (.bool s) ∧ w'.rangeAt w3.heap.size 0 (mgL l) ∧ w'.there (w.heap.size + 1) 0 62)) (by kernel_rfl) ?_ (fun hH => ?_)
  · exact ⟨HBx.out.drew, range_keep R2.out J3.out.drew, cell_keep HF.out.2.1 K3.out.drew, R3.out, there_keep Ht.out K3.out.drew⟩
  try dsimp only at hH
  refine wpAnyH_take (i := 0) (v := (.agg (mgL u).toArray)) rfl (by kernel_rfl) (by kernel_rfl) (by kernel_rfl) (fun _ _ _ h => h) (yld86 w2.heap.size 0 u rfl ⟨_, rfl, rfl⟩ (fun wz hz => hz.2.1)) hH ?_
  try simp only [Act.put, List.getElem_toArray, List.getElem_cons_zero, List.setIfInBounds_toArray, List.set_cons_zero, List.set_cons_succ]
  refine wpAnyH_take (i := 1) (v := (.pointer (some ⟨w.heap.size, 0, none⟩))) rfl (by kernel_rfl) (by kernel_rfl) (by kernel_rfl) (fun _ _ _ h => h) (Or.inl ⟨by rfl, fun wz hz => by skip; go_simp⟩) hH ?_
  try simp only [Act.put, List.getElem_toArray, List.getElem_cons_succ, List.getElem_cons_zero, List.setIfInBounds_toArray, List.set_cons_zero, List.set_cons_succ]
  refine wpAnyH_take (i := 2) (v := (.pointer (some ⟨w.heap.size, 30, none⟩))) rfl (by kernel_rfl) (by kernel_rfl) (by kernel_rfl) (fun _ _ _ h => h) (Or.inl ⟨by rfl, fun wz hz => by skip; go_simp⟩) hH ?_
  try simp only [Act.put, List.getElem_toArray, List.getElem_cons_succ, List.getElem_cons_zero, List.setIfInBounds_toArray, List.set_cons_zero, List.set_cons_succ]
  refine wpAnyH_take (i := 3) (v := (.bool s)) rfl (by kernel_rfl) (by kernel_rfl) (by kernel_rfl) (fun _ _ _ h => h) (Or.inl ⟨by rfl, fun wz hz => by have hc := hz.2.2.1; go_simp⟩) hH ?_
  try simp only [Act.put, List.getElem_toArray, List.getElem_cons_succ, List.getElem_cons_zero, List.setIfInBounds_toArray, List.set_cons_zero, List.set_cons_succ]
  refine wpAnyH_take (i := 5) (v := (.agg (mgL l).toArray)) rfl (by kernel_rfl) (by kernel_rfl) (by kernel_rfl) (fun _ _ _ h => h) (yld86 w3.heap.size 0 l rfl ⟨_, rfl, rfl⟩ (fun wz hz => hz.2.2.2.1)) hH ?_
  try simp only [Act.put, List.getElem_toArray, List.getElem_cons_succ, List.getElem_cons_zero, List.setIfInBounds_toArray, List.set_cons_zero, List.set_cons_succ]
  refine wpAnyH_ready (rs := [4]) (by kernel_rfl) (by simp) ?_
  refine AllReadyH.cons rfl (fun K hK => ?_) AllReadyH.nil
  simp only [List.getElem_toArray, List.getElem_cons_succ, List.getElem_cons_zero]
  rw [if_pos (by rfl)]
  go_simp
  refine (Cn.out _).mono ?_; rintro e w1 ⟨rfl, hb1⟩
  try simp only []
  refine hK.out _ _ ?_ (fun hH1 => ?_)
  · exact ⟨(hH.1).trans (hb1.mono (hH.1).size), range_keep hH.2.1 hb1, cell_keep hH.2.2.1 hb1, range_keep hH.2.2.2.1 hb1, there_keep hH.2.2.2.2 hb1⟩
  clear hK K
  try simp only [Act.put, List.getElem_toArray, List.getElem_cons_succ, List.getElem_cons_zero, List.setIfInBounds_toArray, List.set_cons_zero, List.set_cons_succ]
  refine wpAnyH_ready (rs := [6]) (by kernel_rfl) (by simp) ?_
  refine AllReadyH.cons rfl (fun K hK => ?_) AllReadyH.nil
  simp only [List.getElem_toArray, List.getElem_cons_succ, List.getElem_cons_zero]
  rw [if_pos (by rfl)]
  go_simp
  refine (Cm.out _).mono ?_; rintro e w2 ⟨rfl, hb2⟩
  try simp only []
  refine hK.out _ _ ?_ (fun hH2 => ?_)
  · exact ⟨(hH1.1).trans (hb2.mono (hH1.1).size), range_keep hH1.2.1 hb2, cell_keep hH1.2.2.1 hb2, range_keep hH1.2.2.2.1 hb2, there_keep hH1.2.2.2.2 hb2⟩
  clear hK K
  try simp only [Act.put, List.getElem_toArray, List.getElem_cons_succ, List.getElem_cons_zero, List.setIfInBounds_toArray, List.set_cons_zero, List.set_cons_succ]
  refine wpAnyH_take (i := 7) (v := (.agg (frL u (s && !decide (u = 0)) l false).toArray)) rfl (by kernel_rfl) (by kernel_rfl) (by kernel_rfl) (fun _ _ _ h => h) (yb115 u (s && !decide (u = 0)) l false _ _ rfl rfl rfl rfl) hH2 ?_
  try simp only [Act.put, List.getElem_toArray, List.getElem_cons_succ, List.getElem_cons_zero, List.setIfInBounds_toArray, List.set_cons_zero, List.set_cons_succ]
  refine wpAnyH_ready (rs := [8]) (by kernel_rfl) (by simp) ?_
  refine AllReadyH.cons rfl (fun K hK => ?_) AllReadyH.nil
  simp only [List.getElem_toArray, List.getElem_cons_succ, List.getElem_cons_zero]
  rw [if_pos (by rfl)]
  with_reducible refine wst115 (w.heap.size + 1) 0 u (s && !decide (u = 0)) l false ?_ hH2.2.2.2.2 ?_
  · exact ⟨_, _, rfl, rfl, rfl⟩
  refine hK.out _ _ ?_ (fun hH3 => ?_)
  · exact ⟨below_set hH2.1 (by omega) _ _, range_setk hH2.2.1 (by first | trivial | omega), cell_setk hH2.2.2.1 (by first | trivial | omega), range_setk hH2.2.2.2.1 (by first | trivial | omega), there_setk hH2.2.2.2.2 (by first | trivial | omega)⟩
  clear hK K
  try simp only [Act.put]
  refine wpAnyH_done (by kernel_rfl) ?_ _
  go_wp2
  exact ret115 Tryz.results115 (w.heap.size + 1) 0 rfl u (s && !decide (u = 0)) l false (range_set hH2.2.2.2.2 (by rw [frL_len])) rfl ⟨rfl, hH3.1⟩
end Go.Proofs.YtpbegoflpfdajaaGreatDoor

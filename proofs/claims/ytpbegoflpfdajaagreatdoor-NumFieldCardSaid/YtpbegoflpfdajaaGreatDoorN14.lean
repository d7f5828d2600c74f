/- WHAT IS PROVED: contracts of functions of the numbers package and laws for them, used by the last text of this claim. CONDITIONS: stated at each theorem. -/
import Derived.Lib.ItoaMem
import Derived.Test.YtpbegoflpfdajaaGreatDoorN13
import Derived.Lib.AtoiErrMem
import Derived.WideMake
import Derived.WalkKit
import Derived.LoopTactic
import Derived.Laws.EntriesVeiled
import Derived.Laws.Bits64b
namespace Go.Proofs.YtpbegoflpfdajaaGreatDoor
open Go.RowKit Go.Sort
open Go.Lib (decDigits nDigits decDigits_length)

theorem holds_zero0 (w : World) (T : TypeId) (nd : Nat) (hs : nd ≤ 24) : Holds (fun (b : UInt8) => Value.int .u8 (b.toNat : Int)) (w.alloc (.cells Lib.zeros24 T)) w.heap.size 0 (Array.replicate nd (0 : UInt8)) := fun j hj => by
  have hj' : j < nd := by simpa using hj
  refine ⟨?_, World.frozen?_alloc_new _ _ _ _⟩
  rw [World.cell?_alloc_new, Lib.zeros24_at _ (by omega), getElem!_pos _ j hj]
  simp

theorem cv_row (w : World) (u k v' : Nat) (dk : Array UInt8) (HH0 : Holds (fun (b : UInt8) => Value.int .u8 (b.toNat : Int)) (w.alloc (.cells Lib.zeros24 180)) w.heap.size 0 (Array.replicate (nDigits u) (0 : UInt8))) (hF : Lib.FmtInv (nDigits u) u 0 v' dk) :
    (convert 152 9 (.slice (some ⟨w.heap.size, 0, none⟩) (nDigits u) 24)).run Tryz.prog ((putRow (fun (b : UInt8) => Value.int .u8 (b.toNat : Int)) (w.alloc (.cells Lib.zeros24 180)) w.heap.size 0 dk).drewN k) = .ok (.string ⟨(decDigits u).toArray⟩) ((putRow (fun (b : UInt8) => Value.int .u8 (b.toNat : Int)) (w.alloc (.cells Lib.zeros24 180)) w.heap.size 0 dk).drewN k) := by
  have h := run_convert_bytes_back (P := Tryz.prog) ((putRow (fun (b : UInt8) => Value.int .u8 (b.toNat : Int)) (w.alloc (.cells Lib.zeros24 180)) w.heap.size 0 dk).drewN k) 152 9 5 ⟨w.heap.size, 0, none⟩ 24 (decDigits u) Tryz.underlying152 Tryz.underlying5 Tryz.underlying9 (fun j hj => by
    rw [Lib.row_is_numeral hF j hj, Lib.add_plain, World.cell?_drewN]
    exact cell?_putRow (fun (b : UInt8) => Value.int .u8 (b.toNat : Int)) _ w.heap.size 0 _ dk HH0 (by rw [hF.size, Array.size_replicate]) j (by rw [hF.size]; rw [decDigits_length] at hj; exact hj))
  rw [decDigits_length] at h
  exact h
theorem below_row (w : World) (dk : Array UInt8) (k : Nat) : RowKit.Below w.heap.size w ((putRow (fun (b : UInt8) => Value.int .u8 (b.toNat : Int)) (w.alloc (.cells Lib.zeros24 180)) w.heap.size 0 dk).drewN k) := by
  rw [alloc_eq_grow]
  obtain ⟨os', _, e⟩ := putRow_grow_new (fun (b : UInt8) => Value.int .u8 (b.toNat : Int)) w #[.cells Lib.zeros24 180] w.heap.size 0 dk (Nat.le_refl _)
  rw [e]
  exact Lib.below_grow w.heap.size w (Nat.le_refl _) k os'
theorem z180 (w : World) : (zeroValue 180).run Tryz.prog w = .ok (.agg Lib.zeros24) w := Tryz.zeroValue180 w

set_option maxHeartbeats 1000000 in
set_option maxRecDepth 100000 in
/-- the library's FormatUint at base 10 -/
theorem formatUint1_any (u : Nat) (hu64 : u < 18446744073709551616) (w : World) (hg : Gl w) :
    Calls Tryz.prog 133 #[.int .u64 u, .int .i64 10] w fun e w' => e = .returned (.string ⟨(decDigits u).toArray⟩) ∧ Below w.heap.size w w' := by
  by_cases h100 : u < 100
  · have d1 : decide ((u : Int) < 100) = true := by simp; omega
    have Cs := Lib.hid (Tryz.internal_strconv_small u h100 w)
    go_enter Tryz.func133, Tryz.ntmps133
    go_wp2_with (go_at_call 179; (with_reducible refine (Cs.out).mono ?_); rintro e w1 ⟨rfl, rfl⟩)
    go_ret
    exact ⟨rfl, Below.refl _ _⟩
  · have d1 : decide ((u : Int) < 100) = false := by simp; omega
    have hu1 : 1 ≤ u := by omega
    have hnd20 : nDigits u ≤ 20 := by have := Lib.numDigits_eq u hu1 hu64; split at this <;> omega
    have htab := Lib.tabIs_alloc hg.tab (.cells Lib.zeros24 180)
    have Cn := Lib.hid (Tryz.internal_strconv_numDigits u hu1 hu64 _ htab)
    have hH0 := holds_zero0 w 180 (nDigits u) (by omega)
    have hfmt := Tryz.internal_strconv_formatBase10 w.heap.size 0 24 u (Array.replicate (nDigits u) 0) (w.alloc (.cells Lib.zeros24 180)) hH0 (by rw [Array.size_replicate]; exact Lib.lt_pow_nDigits u) hu64 (by rw [Array.size_replicate]; omega)
    rw [Array.size_replicate] at hfmt
    have HH0 := Lib.hid hH0
    have HF := Lib.hid hfmt
    have hal : Tryz.prog.arrayLen 180 = 24 := by kernel_rfl
    have hsl : ∀ W, (Instr.sliceAt 180 (.pointer (some ⟨w.heap.size, 0, none⟩)) none (some (.int .i64 (nDigits u : Int))) none).run Tryz.prog W = .ok (.slice (some ⟨w.heap.size, 0, none⟩) (nDigits u) 24) W := fun W => by
      rw [run_sliceAt_array_h W 180 ⟨w.heap.size, 0, none⟩ (by simp [Program.arrayLen, Program.elem, Tryz.underlying180]) .i64 (nDigits u : Int) (by omega) (by rw [hal]; omega)]
      go_simp
    clear hfmt hH0 htab hal
    go_enter Tryz.func133, Tryz.ntmps133
    go_wp2_with (first
      | ((with_reducible refine al_z 180 Lib.zeros24 ?_ z180 ?_); (· exact ⟨rfl, rfl⟩))
      | (go_at_call 180; (with_reducible refine (Cn.out).mono ?_); rintro e w1 ⟨rfl, rfl⟩)
      | (go_at_call 181; (with_reducible refine (HF.out).mono ?_); rintro e w2 ⟨rfl, k, v', dk, rfl, hF⟩; have hcv := cv_row w u k v' dk HH0.out hF))
    go_ret
    exact ⟨rfl, below_row w dk k⟩

/-- FormatUint at base 10 -/
theorem formatUint_any (u : Nat) (hu64 : u < 18446744073709551616) (w : World) (hg : Gl w) :
    Calls Tryz.prog 59 #[.int .u64 u, .int .i64 10] w fun e w' => e = .returned (.string ⟨(decDigits u).toArray⟩) ∧ Below w.heap.size w w' := by
  have Cs := Lib.hid (formatUint1_any u hu64 w hg)
  go_enter Tryz.func59, Tryz.ntmps59
  go_wp2_with (go_at_call 133; (with_reducible refine (Cs.out).mono ?_); rintro e w1 ⟨rfl, hb1⟩)
  go_ret
  exact ⟨rfl, hb1⟩
end Go.Proofs.YtpbegoflpfdajaaGreatDoor

namespace Go.Proofs.YtpbegoflpfdajaaGreatDoor
open Go.RowKit
open Go.Lib (decDigits nDigits decDigits_length)

/-- checkBits -/
def cbV (l : List UInt8) (k : Nat) : Int :=
  if ckL l = 0 then (match Lib.parseUintB 64 l with | .ok u => if 2 ^ k - 1 < u then 3 else 0 | _ => 3) else ckL l
theorem numEnd_cases (e : Lib.NumEnd Nat) : (∃ u, e = .ok u) ∨ e = .syntax ∨ e = .range := by cases e <;> simp
theorem parse_syn (s : ByteArray) (hs : s.size ≤ 281474976710656) (h : Lib.parseUintB 64 s.data.toList = .syntax) (w : World) (hg : Gl w) :
    Calls Tryz.prog 178 #[.string s, .int .i64 10, .int .i64 64] w fun e w' => ∃ N, e = .returned (.tuple #[.int .u64 0, .iface 194 (.pointer (some ⟨N, 0, none⟩))]) ∧ Below w.heap.size w w' := by
  obtain ⟨a, b, e⟩ := hg.es
  refine (Tryz.strconv_ParseUint_10_at64_syntax s hs h _ w e (Or.inr ⟨a, b, rfl⟩)).mono ?_
  rintro e w' ⟨N, h1, _, _, h2⟩
  exact ⟨N, h1, h2⟩
theorem parse_rng (s : ByteArray) (hs : s.size ≤ 281474976710656) (h : Lib.parseUintB 64 s.data.toList = .range) (w : World) (hg : Gl w) :
    Calls Tryz.prog 178 #[.string s, .int .i64 10, .int .i64 64] w fun e w' => ∃ N, e = .returned (.tuple #[.int .u64 18446744073709551615, .iface 194 (.pointer (some ⟨N, 0, none⟩))]) ∧ Below w.heap.size w w' := by
  obtain ⟨a, b, e⟩ := hg.er
  refine (Tryz.strconv_ParseUint_10_at64_range s hs h _ w e (Or.inr ⟨a, b, rfl⟩)).mono ?_
  rintro e w' ⟨N, h1, _, _, h2⟩
  exact ⟨N, h1, h2⟩
theorem ckL_short (l : List UInt8) (h : ckL l = 0) : l.length ≤ 121 := by
  unfold ckL at h
  split at h
  · omega
  · split at h
    · omega
    · split at h
      · omega
      · rename_i h3
        unfold noMinus Lib.trimPrefix at h3
        split at h3
        · simp at h3; omega
        · omega

theorem below_bw {w w' : World} {s : ByteArray} (h : w' = w ∨ w' = Lib.bytesWorld w 5 s) : Below w.heap.size w w' := by
  rcases h with rfl | rfl
  · exact Below.refl _ _
  · exact Lib.bytesWorld_below _ _ _

set_option maxHeartbeats 1000000 in
theorem checkBits_any (s : ByteArray) (k : Nat) (hk : k ≤ 64) (w : World) (hg : Gl w) :
    Calls Tryz.prog 129 #[.string s, .int .i64 k] w fun e w' => e = .returned (.int .i64 (cbV s.data.toList k)) ∧ Below w.heap.size w w' := by
  have cc := check_any s w
  by_cases h0 : ckL s.data.toList = 0
  · have hsz : s.size ≤ 121 := by have := ckL_short _ h0; simpa using this
    rw [h0] at cc
    have Cc := Lib.hid cc; clear cc
    have HG := Lib.hid hg; clear hg
    rcases numEnd_cases (Lib.parseUintB 64 s.data.toList) with ⟨u, hp⟩ | hp | hp
    · skip
      have hv : cbV s.data.toList k = if 2 ^ k - 1 < u then 3 else 0 := by unfold cbV; rw [if_pos h0, hp]
      have Hp := Lib.hid hp
      clear hp h0
      have Cp := Lib.hid (fun w => Tryz.strconv_ParseUint_10_at64_ok s (by omega) u Hp.out w)
      clear hsz
      by_cases hu : 2 ^ k - 1 < u
      · rw [if_pos hu] at hv
        have d : decide (((2 ^ k - 1 : Nat) : Int) < (u : Int)) = true := by simp only [decide_eq_true_eq]; omega
        have Hv := Lib.hid hv; clear hv
        obtain ⟨m, hm⟩ : ∃ m, 2 ^ k - 1 = m := ⟨_, rfl⟩
        have cm := fun w => mask_any k hk w
        rw [hm] at d cm hu
        have d2 := hu
        have Cm := Lib.hid cm; clear cm hm
        go_enter Tryz.func129, Tryz.ntmps129
        go_wp2_with (first
          | (go_at_call 12; (with_reducible refine (Cc.out).mono ?_); rintro e w1 ⟨rfl, hb1⟩; have HB1 := Lib.hid hb1; clear hb1)
          | (go_at_call 178; (with_reducible refine (Cp.out _).mono ?_); rintro e w2 ⟨rfl, hw2⟩; have HB2 := Lib.hid (below_bw hw2); clear hw2)
          | (go_at_call 125; (with_reducible refine (Cm.out _).mono ?_); rintro e w3 ⟨rfl, rfl⟩))
        go_ret
        exact ⟨by rw [Hv.out]; rfl, HB1.out.trans (HB2.out.mono HB1.out.size)⟩
      · rw [if_neg hu] at hv
        have d : decide (((2 ^ k - 1 : Nat) : Int) < (u : Int)) = false := by simp only [decide_eq_false_iff_not]; omega
        have Hv := Lib.hid hv; clear hv
        obtain ⟨m, hm⟩ : ∃ m, 2 ^ k - 1 = m := ⟨_, rfl⟩
        have cm := fun w => mask_any k hk w
        rw [hm] at d cm hu
        have d2 := hu
        have Cm := Lib.hid cm; clear cm hm
        go_enter Tryz.func129, Tryz.ntmps129
        go_wp2_with (first
          | (go_at_call 12; (with_reducible refine (Cc.out).mono ?_); rintro e w1 ⟨rfl, hb1⟩; have HB1 := Lib.hid hb1; clear hb1)
          | (go_at_call 178; (with_reducible refine (Cp.out _).mono ?_); rintro e w2 ⟨rfl, hw2⟩; have HB2 := Lib.hid (below_bw hw2); clear hw2)
          | (go_at_call 125; (with_reducible refine (Cm.out _).mono ?_); rintro e w3 ⟨rfl, rfl⟩))
        go_ret
        exact ⟨by rw [Hv.out]; rfl, HB1.out.trans (HB2.out.mono HB1.out.size)⟩
    · skip
      have hv : cbV s.data.toList k = 3 := by unfold cbV; rw [if_pos h0, hp]
      have Hv := Lib.hid hv
      have Hp := Lib.hid hp
      clear hp h0 hv
      have Cp := Lib.hid (fun w (h : Gl w) => parse_syn s (by omega) Hp.out w h)
      clear hsz
      go_enter Tryz.func129, Tryz.ntmps129
      go_wp2_with (first
        | (go_at_call 12; (with_reducible refine (Cc.out).mono ?_); rintro e w1 ⟨rfl, hb1⟩; have HB1 := Lib.hid hb1; clear hb1)
        | (go_at_call 178; (with_reducible refine (Cp.out _ (HG.out.keep HB1.out)).mono ?_); rintro e w2 ⟨N, rfl, hb2⟩; have HB2 := Lib.hid hb2; clear hb2))
      go_ret
      exact ⟨by rw [Hv.out]; rfl, HB1.out.trans (HB2.out.mono HB1.out.size)⟩
    · skip
      have hv : cbV s.data.toList k = 3 := by unfold cbV; rw [if_pos h0, hp]
      have Hv := Lib.hid hv
      have Hp := Lib.hid hp
      clear hp h0 hv
      have Cp := Lib.hid (fun w (h : Gl w) => parse_rng s (by omega) Hp.out w h)
      clear hsz
      go_enter Tryz.func129, Tryz.ntmps129
      go_wp2_with (first
        | (go_at_call 12; (with_reducible refine (Cc.out).mono ?_); rintro e w1 ⟨rfl, hb1⟩; have HB1 := Lib.hid hb1; clear hb1)
        | (go_at_call 178; (with_reducible refine (Cp.out _ (HG.out.keep HB1.out)).mono ?_); rintro e w2 ⟨N, rfl, hb2⟩; have HB2 := Lib.hid hb2; clear hb2))
      go_ret
      exact ⟨by rw [Hv.out]; rfl, HB1.out.trans (HB2.out.mono HB1.out.size)⟩
  · have hv : cbV s.data.toList k = ckL s.data.toList := by unfold cbV; rw [if_neg h0]
    obtain ⟨x, hx⟩ : ∃ x, ckL s.data.toList = x := ⟨_, rfl⟩
    rw [hx] at cc hv h0
    have Cc := Lib.hid cc
    have Hv := Lib.hid hv
    have d : (x != 0) = true := by simpa using h0
    clear cc hx h0 hv hg
    go_enter Tryz.func129, Tryz.ntmps129
    go_wp2_with (first
      | (go_at_call 12; (with_reducible refine (Cc.out).mono ?_); rintro e w1 ⟨rfl, hb1⟩; have HB1 := Lib.hid hb1; clear hb1))
    go_ret
    exact ⟨by rw [Hv.out]; rfl, HB1.out⟩
end Go.Proofs.YtpbegoflpfdajaaGreatDoor

/- Laws on a map from the numbers 0, 1, .. to values that the program made: a look-up, a store under a new number. -/
namespace Go.Proofs.YtpbegoflpfdajaaGreatDoor
open Go

def entsI (f : Nat → Value) (n : Nat) : List MapEntry := (List.range n).map fun (i : Nat) => { key := .int .i64 (i : Int), val := f i, born := i }
def mapI (f : Nat → Value) (n : Nat) : Obj := .map (entsI f n).toArray n
theorem entsI_succ (f : Nat → Value) (n : Nat) : entsI f (n + 1) = entsI f n ++ [{ key := .int .i64 (n : Int), val := f n, born := n }] := by simp [entsI, List.range_succ]

theorem findNow_app (k : Int) : ∀ (l r : List MapEntry) (j : Nat), Instr.findNow (.int .i64) (.int .i64 k) l j = some none → Instr.findNow (.int .i64) (.int .i64 k) (l ++ r) j = Instr.findNow (.int .i64) (.int .i64 k) r (j + l.length)
  | [], r, j, _ => by simp
  | e :: l, r, j, h => by
    simp only [List.cons_append, Instr.findNow] at h ⊢
    cases hs : Instr.sameNow (.int .i64) (.int .i64 k) e.key with
    | none => rw [hs] at h; simp at h
    | some b =>
      cases b with
      | true => rw [hs] at h; simp at h
      | false =>
        rw [hs] at h
        simp only at h ⊢
        rw [findNow_app k l r (j + 1) h, List.length_cons]
        congr 1; omega
theorem findI_out (f : Nat → Value) (k : Int) : ∀ n : Nat, (∀ i : Nat, i < n → (i : Int) ≠ k) → Instr.findNow (.int .i64) (.int .i64 k) (entsI f n) 0 = some none
  | 0, _ => rfl
  | n + 1, h => by
    rw [entsI_succ, findNow_app k _ _ 0 (findI_out f k n (fun i hi => h i (by omega)))]
    have : (k == (n : Int)) = false := by have := h n (by omega); simpa using Ne.symm this
    simp [Instr.findNow, Instr.sameNow, this]
theorem findNow_first (k : Int) : ∀ (l r : List MapEntry) (j : Nat) (x : Nat × Value), Instr.findNow (.int .i64) (.int .i64 k) l j = some (some x) → Instr.findNow (.int .i64) (.int .i64 k) (l ++ r) j = some (some x)
  | [], r, j, x, h => by simp [Instr.findNow] at h
  | e :: l, r, j, x, h => by
    simp only [List.cons_append, Instr.findNow] at h ⊢
    cases hs : Instr.sameNow (.int .i64) (.int .i64 k) e.key with
    | none => rw [hs] at h; simp at h
    | some b =>
      cases b with
      | true => rw [hs] at h; exact h
      | false => rw [hs] at h; exact findNow_first k l r (j + 1) x h
theorem findI_in (f : Nat → Value) (k : Nat) : ∀ n : Nat, k < n → ∃ j, Instr.findNow (.int .i64) (.int .i64 (k : Int)) (entsI f n) 0 = some (some (j, f k))
  | 0, h => by omega
  | n + 1, h => by
    rw [entsI_succ]
    by_cases e : k < n
    · obtain ⟨j, hj⟩ := findI_in f k n e
      exact ⟨j, findNow_first _ _ _ _ _ hj⟩
    · obtain rfl : k = n := by omega
      rw [findNow_app _ _ _ 0 (findI_out f k k (fun i hi => by omega))]
      simp [Instr.findNow, Instr.sameNow]

variable {P : Program}
theorem run_lookupI_in (T K E : TypeId) (f : Nat → Value) (k n b : Nat) (w : World) (hT : P.underlying T = some (.map K E)) (hK : P.underlying K = some (.int .i64)) (hk : k < n) (hb : w.heap[b]? = some (mapI f n)) :
    (Instr.lookup T (.map (some b)) (.int .i64 (k : Int)) true).run P w = .ok (.tuple #[f k, .bool true]) w := by
  have hb' : w.heap[b]? = some (.map (entsI f n).toArray n) := hb
  obtain ⟨j, hn⟩ := findI_in f k n hk
  have hc : ∀ e, (Instr.checkKey e 10000 K (.int .i64 (k : Int))).run P w = .ok () w := fun e => MapKept.run_checkKey hK (by simp [MapKept.IsKey]) e 9999
  simp [Instr.lookup, run_underlying hT, MapKept.run_getObj_map hb', hc, MapKept.run_findKey hK hn, Result.andThen]
theorem run_lookupI_out (T K E : TypeId) (f : Nat → Value) (k : Int) (n b : Nat) (z : Value) (w : World) (hT : P.underlying T = some (.map K E)) (hK : P.underlying K = some (.int .i64)) (hz : ∀ w, (zeroValue E).run P w = .ok z w) (hk : ∀ i : Nat, i < n → (i : Int) ≠ k) (hb : w.heap[b]? = some (mapI f n)) :
    (Instr.lookup T (.map (some b)) (.int .i64 k) true).run P w = .ok (.tuple #[z, .bool false]) w := by
  have hb' : w.heap[b]? = some (.map (entsI f n).toArray n) := hb
  have hn := findI_out f k n hk
  have hc : ∀ e, (Instr.checkKey e 10000 K (.int .i64 k)).run P w = .ok () w := fun e => MapKept.run_checkKey hK (by simp [MapKept.IsKey]) e 9999
  simp [Instr.lookup, run_underlying hT, MapKept.run_getObj_map hb', hc, MapKept.run_findKey hK hn, Result.andThen, hz]
theorem run_updateI (T K E : TypeId) (f : Nat → Value) (n b : Nat) (w : World) (hT : P.underlying T = some (.map K E)) (hK : P.underlying K = some (.int .i64)) (hb : w.heap[b]? = some (mapI f n)) :
    (Instr.mapUpdate T (.map (some b)) (.int .i64 (n : Int)) (f n)).run P w = .ok () { w with heap := w.heap.setIfInBounds b (mapI f (n + 1)) } := by
  have hb' : w.heap[b]? = some (.map (entsI f n).toArray n) := hb
  have hf := findI_out f (n : Int) n (fun i hi => by omega)
  have hc : (Instr.checkKey false 10000 K (.int .i64 (n : Int))).run P w = .ok () w := MapKept.run_checkKey hK (by simp [MapKept.IsKey]) false 9999
  have ho : mapI f (n + 1) = .map ((entsI f n).toArray.push { key := .int .i64 (n : Int), val := f n, born := n }) (n + 1) := by
    simp [mapI, entsI_succ]
  rw [ho]
  simp [Instr.mapUpdate, run_underlying hT, MapKept.run_getObj_map hb', hc, MapKept.run_findKey hK hf, MapKept.run_setObj_map _ hb', Result.andThen]
end Go.Proofs.YtpbegoflpfdajaaGreatDoor

namespace Go.Proofs.YtpbegoflpfdajaaGreatDoor
open Go.RowKit

/-- checkBits, at the width that a box holds -/
theorem checkBitsBox_any (s : ByteArray) (k : Nat) (hk : k ≤ 64) (p : Addr) (w : World) (hg : Gl w) (hp : w.cell? p = some (.int .i64 k)) :
    Calls Tryz.prog 128 #[.string s, .pointer (some p)] w fun e w' => e = .returned (.int .i64 (cbV s.data.toList k)) ∧ Below w.heap.size w w' := by
  have Cs := Lib.hid (checkBits_any s k hk w hg)
  go_enter Tryz.func128, Tryz.ntmps128
  go_wp2_with (go_at_call 129; (with_reducible refine (Cs.out).mono ?_); rintro e w1 ⟨rfl, hb1⟩)
  go_ret
  exact ⟨rfl, hb1⟩

/-- an operation by its code -/
def opB (i : Nat) : Bool := i == 3 || i == 4
def opV (i : Nat) : Value := .agg #[.int .i64 (i : Int), .bool (opB i), .func (.func (168 + i)) #[] #[]]
def opCells : Array Value := #[.int .i64 0, .bool false, .func (.func 168) #[] #[], .int .i64 1, .bool false, .func (.func 169) #[] #[], .int .i64 2, .bool false, .func (.func 170) #[] #[], .int .i64 3, .bool true, .func (.func 171) #[] #[], .int .i64 4, .bool true, .func (.func 172) #[] #[], .int .i64 5, .bool false, .func (.func 173) #[] #[], .int .i64 6, .bool false, .func (.func 174) #[] #[], .int .i64 7, .bool false, .func (.func 175) #[] #[], .int .i64 8, .bool false, .func (.func 176) #[] #[], .int .i64 9, .bool false, .func (.func 177) #[] #[]]
theorem opCells_at : ∀ k, k < 10 → opCells[3 * k]? = some (.int .i64 (k : Int)) ∧ opCells[3 * k + 1]? = some (.bool (opB k)) ∧ opCells[3 * k + 2]? = some (.func (.func (168 + k)) #[] #[])
  | 0, _ => ⟨rfl, rfl, rfl⟩
  | 1, _ => ⟨rfl, rfl, rfl⟩
  | 2, _ => ⟨rfl, rfl, rfl⟩
  | 3, _ => ⟨rfl, rfl, rfl⟩
  | 4, _ => ⟨rfl, rfl, rfl⟩
  | 5, _ => ⟨rfl, rfl, rfl⟩
  | 6, _ => ⟨rfl, rfl, rfl⟩
  | 7, _ => ⟨rfl, rfl, rfl⟩
  | 8, _ => ⟨rfl, rfl, rfl⟩
  | 9, _ => ⟨rfl, rfl, rfl⟩
  | k + 10, h => by omega
theorem below_setObj {w X : World} {B r : Nat} (hb : Below B w X) (h : B ≤ r) (o : Obj) : Below B w { X with heap := X.heap.setIfInBounds r o } :=
  hb.trans ⟨rfl, rfl, rfl, by simp, fun k hk => by show (X.heap.setIfInBounds r o)[k]? = _; rw [Array.getElem?_setIfInBounds]; rw [if_neg (by omega)]⟩

set_option maxHeartbeats 1000000 in
set_option maxRecDepth 100000 in
theorem operations_any (w : World) : Calls Tryz.prog 127 #[] w fun e w' => ∃ b, e = .returned (.map (some b)) ∧ w'.heap[b]? = some (mapI opV 10) ∧ Below w.heap.size w w' := by
  have hmm := fun w => run_makeMap_plain (P := Tryz.prog) w 142
  have g0 : ((w.alloc (.cells opCells 140)).alloc (.map #[] 0)).heap[w.heap.size]? = some (.cells opCells 140 (0, 0)) := by
    rw [heap_alloc_lt (by simp)]; exact heap_alloc_at _ _
  have g1 : ((w.alloc (.cells opCells 140)).alloc (.map #[] 0)).heap[w.heap.size + 1]? = some (mapI opV 0) := heap_alloc_at' _ _ _ (by simp)
  have hb0 : Below w.heap.size w ((w.alloc (.cells opCells 140)).alloc (.map #[] 0)) := ((Below.refl w.heap.size w).alloc (Nat.le_refl _) _).alloc (by simp) _
  have G := Lib.hid (And.intro g0 (And.intro g1 hb0))
  clear g0 g1 hb0
  go_enter Tryz.func127, Tryz.ntmps127
  go_wp2
  go_loopw [19] (fun i wr => ∃ k : Nat, i = .int .i64 k ∧ k ≤ 10 ∧ wr.heap[w.heap.size]? = some (.cells opCells 140 (0, 0)) ∧ wr.heap[w.heap.size + 1]? = some (mapI opV k) ∧ Below w.heap.size w wr) (fun i _ => 10 - (intOf i).toNat)
  case atStart => exact ⟨0, rfl, by omega, G.out.1, G.out.2.1, G.out.2.2⟩
  case round =>
    obtain ⟨k, rfl, hk, h0, h1, hb⟩ := hrel
    have hl1 := (Array.getElem?_eq_some_iff.1 h1).1
    by_cases h : k < 10
    · obtain ⟨a0, a1, a2⟩ := opCells_at k h
      have c0 : wr.cell? ⟨w.heap.size, k * 3, none⟩ = some (.int .i64 (k : Int)) := by rw [Nat.mul_comm]; simp [World.cell?, h0, a0]
      have c1 : wr.cell? ⟨w.heap.size, k * 3 + 1, none⟩ = some (.bool (opB k)) := by rw [Nat.mul_comm]; simp [World.cell?, h0, a1]
      have c2 : wr.cell? ⟨w.heap.size, k * 3 + 2, none⟩ = some (.func (.func (168 + k)) #[] #[]) := by rw [Nat.mul_comm]; simp [World.cell?, h0, a2]
      have hm : (wr.alloc (.cells #[.int .i64 (k : Int), .bool (opB k), .func (.func (168 + k)) #[] #[]] 140)).heap[w.heap.size + 1]? = some (mapI opV k) := (heap_alloc_lt hl1).trans h1
      have hup := run_updateI (P := Tryz.prog) 142 3 140 opV k (w.heap.size + 1) _ Tryz.underlying142 Tryz.underlying3 hm
      unfold opV at hup
      have d1 : decide ((k : Int) < 10) = true := by simp; omega
      have H0 := Lib.hid h0; have H1 := Lib.hid h1; have Hb := Lib.hid hb
      have Hm := Lib.hid hm
      clear h0 h1 hb a0 a1 a2 hm
      go_wp2
      go_roundw
      case rel => exact ⟨k + 1, by go_num, by omega, ((MapKept.heap_set Hm.out).2 _ (by omega)).trans ((heap_alloc_lt (by omega)).trans H0.out), (MapKept.heap_set Hm.out).1, below_setObj (Hb.out.alloc Hb.out.size _) (by omega) _⟩
      case measure => simp [intOf]; omega
    · have hk10 : k = 10 := by omega
      subst hk10
      have H1 := Lib.hid h1; have Hb := Lib.hid hb
      clear h0 h1 hb h
      go_wp2
      go_ret
      exact ⟨_, rfl, H1.out, Hb.out⟩
end Go.Proofs.YtpbegoflpfdajaaGreatDoor

namespace Go.Proofs.YtpbegoflpfdajaaGreatDoor
open Go.RowKit

/-- what an operation answers, before it is cut -/
def opN (i a b : Nat) : Nat :=
  match i with
  | 0 => (a + b) % 18446744073709551616
  | 1 => (a + 18446744073709551616 - b) % 18446744073709551616
  | 2 => a * b % 18446744073709551616
  | 3 => a / b
  | 4 => a % b
  | 5 => a &&& b
  | 6 => a ||| b
  | 7 => a ^^^ b
  | 8 => a * 2 ^ min b 64 % 18446744073709551616
  | _ => a / 2 ^ min b 64

theorem opE0 (a b : Nat) (_ha : a < 18446744073709551616) (_hb : b < 18446744073709551616) : IntKind.u64.wrap ((a : Int) + b) = (opN 0 a b : Int) := by
  rw [IntKind.wrap_u64]; unfold opN; simp only; omega
theorem op0_any (a b : Nat) (ha : a < 18446744073709551616) (hb : b < 18446744073709551616) (w : World) : Calls Tryz.prog 168 #[.int .u64 a, .int .u64 b] w fun e w' => e = .returned (.int .u64 (opN 0 a b)) ∧ w' = w := by
  rw [← opE0 a b ha hb]
  go_enter Tryz.func168, Tryz.ntmps168
  go_wp2
  go_ret
  exact ⟨rfl, rfl⟩

theorem opE1 (a b : Nat) (ha : a < 18446744073709551616) (hb : b < 18446744073709551616) : IntKind.u64.wrap ((a : Int) - b) = (opN 1 a b : Int) := by
  rw [IntKind.wrap_u64]; unfold opN; simp only; omega
theorem op1_any (a b : Nat) (ha : a < 18446744073709551616) (hb : b < 18446744073709551616) (w : World) : Calls Tryz.prog 169 #[.int .u64 a, .int .u64 b] w fun e w' => e = .returned (.int .u64 (opN 1 a b)) ∧ w' = w := by
  rw [← opE1 a b ha hb]
  go_enter Tryz.func169, Tryz.ntmps169
  go_wp2
  go_ret
  exact ⟨rfl, rfl⟩

theorem opE2 (a b : Nat) (_ha : a < 18446744073709551616) (_hb : b < 18446744073709551616) : IntKind.u64.wrap ((a : Int) * b) = (opN 2 a b : Int) := by
  rw [IntKind.wrap_u64]; unfold opN; simp only; rw [← Int.natCast_mul]; omega
theorem op2_any (a b : Nat) (ha : a < 18446744073709551616) (hb : b < 18446744073709551616) (w : World) : Calls Tryz.prog 170 #[.int .u64 a, .int .u64 b] w fun e w' => e = .returned (.int .u64 (opN 2 a b)) ∧ w' = w := by
  rw [← opE2 a b ha hb]
  go_enter Tryz.func170, Tryz.ntmps170
  go_wp2
  go_ret
  exact ⟨rfl, rfl⟩

theorem opE3 (a b : Nat) (ha : a < 18446744073709551616) (_hb : b < 18446744073709551616) : IntKind.u64.wrap ((a : Int) / b) = (opN 3 a b : Int) := by
  have h1 : (a : Int) / b = ((a / b : Nat) : Int) := by simp
  have h2 : a / b ≤ a := Nat.div_le_self _ _
  show _ = ((a / b : Nat) : Int)
  obtain ⟨q, hq⟩ : ∃ q, a / b = q := ⟨_, rfl⟩
  rw [hq] at h1 h2 ⊢
  rw [h1]; exact IntWalk.u64_in _ (by omega)
theorem op3_any (a b : Nat) (ha : a < 18446744073709551616) (hb : b < 18446744073709551616) (h0 : b ≠ 0) (w : World) : Calls Tryz.prog 171 #[.int .u64 a, .int .u64 b] w fun e w' => e = .returned (.int .u64 (opN 3 a b)) ∧ w' = w := by
  rw [← opE3 a b ha hb]
  have h1 : (b : Int) ≠ 0 := by omega
  have h2 : 0 < (b : Int) := by omega
  go_enter Tryz.func171, Tryz.ntmps171
  go_wp2
  go_ret
  exact ⟨rfl, rfl⟩

theorem opE4 (a b : Nat) (_ha : a < 18446744073709551616) (_hb : b < 18446744073709551616) : (a : Int) % b = (opN 4 a b : Int) := by
  unfold opN; simp
theorem op4_any (a b : Nat) (ha : a < 18446744073709551616) (hb : b < 18446744073709551616) (h0 : b ≠ 0) (w : World) : Calls Tryz.prog 172 #[.int .u64 a, .int .u64 b] w fun e w' => e = .returned (.int .u64 (opN 4 a b)) ∧ w' = w := by
  rw [← opE4 a b ha hb]
  have h1 : (b : Int) ≠ 0 := by omega
  have h2 : 0 < (b : Int) := by omega
  go_enter Tryz.func172, Tryz.ntmps172
  go_wp2
  go_ret
  exact ⟨rfl, rfl⟩

theorem opE5 (a b : Nat) (ha : a < 18446744073709551616) (hb : b < 18446744073709551616) : bits BinOp.and IntKind.u64 a b = (opN 5 a b : Int) := by
  exact bits_and_u64_nat a b ha hb
theorem op5_any (a b : Nat) (ha : a < 18446744073709551616) (hb : b < 18446744073709551616) (w : World) : Calls Tryz.prog 173 #[.int .u64 a, .int .u64 b] w fun e w' => e = .returned (.int .u64 (opN 5 a b)) ∧ w' = w := by
  rw [← opE5 a b ha hb]
  go_enter Tryz.func173, Tryz.ntmps173
  go_wp2
  go_ret
  exact ⟨rfl, rfl⟩

theorem opE6 (a b : Nat) (ha : a < 18446744073709551616) (hb : b < 18446744073709551616) : bits BinOp.or IntKind.u64 a b = (opN 6 a b : Int) := by
  exact bits_or_u64_nat a b ha hb
theorem op6_any (a b : Nat) (ha : a < 18446744073709551616) (hb : b < 18446744073709551616) (w : World) : Calls Tryz.prog 174 #[.int .u64 a, .int .u64 b] w fun e w' => e = .returned (.int .u64 (opN 6 a b)) ∧ w' = w := by
  rw [← opE6 a b ha hb]
  go_enter Tryz.func174, Tryz.ntmps174
  go_wp2
  go_ret
  exact ⟨rfl, rfl⟩

theorem opE7 (a b : Nat) (ha : a < 18446744073709551616) (hb : b < 18446744073709551616) : bits BinOp.xor IntKind.u64 a b = (opN 7 a b : Int) := by
  exact bits_xor_u64_nat a b ha hb
theorem op7_any (a b : Nat) (ha : a < 18446744073709551616) (hb : b < 18446744073709551616) (w : World) : Calls Tryz.prog 175 #[.int .u64 a, .int .u64 b] w fun e w' => e = .returned (.int .u64 (opN 7 a b)) ∧ w' = w := by
  rw [← opE7 a b ha hb]
  go_enter Tryz.func175, Tryz.ntmps175
  go_wp2
  go_ret
  exact ⟨rfl, rfl⟩

theorem opE8 (a b : Nat) (_ha : a < 18446744073709551616) (_hb : b < 18446744073709551616) : IntKind.u64.wrap ((a : Int) * 2 ^ min b 64) = (opN 8 a b : Int) := by
  have h1 : (a : Int) * 2 ^ min b 64 = ((a * 2 ^ min b 64 : Nat) : Int) := by simp
  rw [IntKind.wrap_u64, h1]; unfold opN; simp only; omega
theorem op8_any (a b : Nat) (ha : a < 18446744073709551616) (hb : b < 18446744073709551616) (w : World) : Calls Tryz.prog 176 #[.int .u64 a, .int .u64 b] w fun e w' => e = .returned (.int .u64 (opN 8 a b)) ∧ w' = w := by
  rw [← opE8 a b ha hb]
  go_enter Tryz.func176, Tryz.ntmps176
  go_wp2
  go_ret
  exact ⟨rfl, rfl⟩

theorem opE9 (a b : Nat) (_ha : a < 18446744073709551616) (_hb : b < 18446744073709551616) : (a : Int) / 2 ^ min b 64 = (opN 9 a b : Int) := by
  unfold opN; simp
theorem op9_any (a b : Nat) (ha : a < 18446744073709551616) (hb : b < 18446744073709551616) (w : World) : Calls Tryz.prog 177 #[.int .u64 a, .int .u64 b] w fun e w' => e = .returned (.int .u64 (opN 9 a b)) ∧ w' = w := by
  rw [← opE9 a b ha hb]
  go_enter Tryz.func177, Tryz.ntmps177
  go_wp2
  go_ret
  exact ⟨rfl, rfl⟩

theorem opN_lt (i a b : Nat) (ha : a < 18446744073709551616) (hb : b < 18446744073709551616) (hi : i = 4 → b ≠ 0) : opN i a b < 18446744073709551616 := by
  unfold opN
  split
  · omega
  · omega
  · omega
  · exact Nat.lt_of_le_of_lt (Nat.div_le_self _ _) ha
  · have := Nat.mod_lt a (Nat.pos_of_ne_zero (hi rfl)); omega
  · exact Nat.lt_of_le_of_lt Nat.and_le_left ha
  · exact Nat.or_lt_two_pow (n := 64) ha hb
  · exact Nat.xor_lt_two_pow (n := 64) ha hb
  · omega
  · exact Nat.lt_of_le_of_lt (Nat.div_le_self _ _) ha
end Go.Proofs.YtpbegoflpfdajaaGreatDoor

/-
  WHAT IS PROVED: the law LexTokens returns true at every string, and leaves its argument as it was. CONDITIONS: none of its own; the two listed variables hold what the program's text lays in them (the given tie).
-/
import Derived.Test.YtokdoklkaojheaaDoorZg
import Derived.Test.YtokdoklkaojheaaDoorWx
import Derived.Test.YtokdoklkaojheaaDoorZh
import Derived.Shelf.SortM.Plain
import Derived.Shelf.SortM.SortNone
import Derived.Test.YtokdoklkaojheaaDoorProg
import Derived.RangeFuncBox
import Derived.RangeFuncLeaves
import Derived.Shelf.Abstract
import Derived.WalkKit
import Derived.OwnWalkIn
import Derived.TacticsInMore
import Derived.LoopNIn
import Derived.LoopIn
import Derived.Maps.AppendAt
import Derived.Sort.OwnSorted
import Derived.Test.YtokdoklkaojheaaDoorYc
import Derived.Test.YtokdoklkaojheaaDoorWy
import Derived.Test.YtokdoklkaojheaaDoorXa
import Derived.Test.YtokdoklkaojheaaDoorTie
import Derived.Test.YtokdoklkaojheaaDoorCards
import Derived.SevenTiedAt
namespace Go.Proofs.YtokdoklkaojheaaDoor
open Go.RowKit

set_option maxHeartbeats 2000000 in
/-- two lists of the same strings -/
theorem sameStrings_eq (b1 b2 : Nat) (zs : List ByteArray) (n c1 c2 : Nat) (w : World) (hn : n = zs.length) (hm : n ≤ 1000000) (h1 : strsAt w b1 zs) (h2 : strsAt w b2 zs) :
    Calls Tryd.prog 13 #[.slice (some ⟨b1, 0, none⟩) n c1, .slice (some ⟨b2, 0, none⟩) n c2] w fun r w' => r = .returned (.bool true) ∧ ∃ q, w' = w.drewN q := by
  have Hn := Lib.hid hn; clear hn
  have H1 := Lib.hid h1; have H2 := Lib.hid h2; clear h1 h2
  go_enter Tryd.func13, Tryd.ntmps13
  go_wp2
  go_loopw [5] (fun i wr => ∃ k q : Nat, k ≤ n ∧ i = .int .i64 k ∧ wr = w.drewN q) (fun i _ => n - (intOf i).toNat)
  case atStart => exact ⟨0, 0, Nat.zero_le _, rfl, rfl⟩
  case round =>
    obtain ⟨k, q, hk, rfl, rfl⟩ := hrel
    by_cases hlt : k < n
    · have hkz : k < zs.length := by have := Hn.out; omega
      have hc1 := H1.out k hkz
      have hc2 := H2.out k hkz
      obtain ⟨z, hz⟩ : ∃ z, zs.getD k ⟨#[]⟩ = z := ⟨_, rfl⟩
      rw [hz] at hc1 hc2
      clear hz
      go_wp2
      go_quiet (fail)
      go_wp2
      go_roundw
      case rel => exact ⟨k + 1, _, by omega, by go_num, rfl⟩
      case measure => simp [intOf]; omega
    · go_wp2
      go_ret
      exact ⟨rfl, q, rfl⟩

/-- a list of tokens in memory, as values -/
def toksAt (w : World) (b : Nat) (n : Nat) (vs : Nat → Int × ByteArray × Int) : Prop :=
  ∀ i, i < n → w.cell? ⟨b, i * 3, none⟩ = some (.int .i64 (vs i).1) ∧ w.cell? ⟨b, i * 3 + 1, none⟩ = some (.string (vs i).2.1) ∧ w.cell? ⟨b, i * 3 + 2, none⟩ = some (.int .i64 (vs i).2.2)

set_option maxHeartbeats 4000000 in
set_option maxRecDepth 100000 in
/-- two lists of the same tokens -/
theorem sameTokens_eq (b1 b2 : Nat) (vs : Nat → Int × ByteArray × Int) (n c1 c2 : Nat) (w : World) (hm : n ≤ 1000000) (h1 : toksAt w b1 n vs) (h2 : toksAt w b2 n vs) :
    Calls Tryd.prog 11 #[.slice (some ⟨b1, 0, none⟩) n c1, .slice (some ⟨b2, 0, none⟩) n c2] w fun r w' => r = .returned (.bool true) ∧ ∃ q, w' = w.drewN q := by
  have H1 := Lib.hid h1; have H2 := Lib.hid h2; clear h1 h2
  go_enter Tryd.func11, Tryd.ntmps11
  go_wp2
  go_loopw [5] (fun i wr => ∃ k q : Nat, k ≤ n ∧ i = .int .i64 k ∧ wr = w.drewN q) (fun i _ => n - (intOf i).toNat)
  case atStart => exact ⟨0, 0, Nat.zero_le _, rfl, rfl⟩
  case round =>
    obtain ⟨k, q, hk, rfl, rfl⟩ := hrel
    by_cases hlt : k < n
    · obtain ⟨a0, a1, a2⟩ := H1.out k hlt
      obtain ⟨e0, e1, e2⟩ := H2.out k hlt
      obtain ⟨⟨x, t, o⟩, hz⟩ : ∃ z, vs k = z := ⟨_, rfl⟩
      rw [hz] at a0 a1 a2 e0 e1 e2
      clear hz
      go_wp2
      go_quiet (fail)
      go_wp2
      go_roundw
      case rel => exact ⟨k + 1, _, by omega, by go_num, rfl⟩
      case measure => simp [intOf]; omega
    · go_wp2
      go_ret
      exact ⟨rfl, q, rfl⟩
end Go.Proofs.YtokdoklkaojheaaDoor

namespace Go.Proofs.YtokdoklkaojheaaDoor
open Go.RowKit

theorem Tryd.info61 : (Tryd.prog.info? 61).map (fun i => (i.zero, i.size, i.bytes)) = some (some (.agg #[.int .i64 0, .string ⟨#[]⟩, .int .i64 0]), 3, 32) := by kernel_rfl

/-- a row of tokens is there -/
def itemsAt (w : World) (b : Nat) (xs : List Item) : Prop :=
  ∀ (i : Nat) (x : Item), xs[i]? = some x → w.cell? ⟨b, i * 3, none⟩ = some (.int .i64 x.kind) ∧ w.cell? ⟨b, i * 3 + 1, none⟩ = some (.string x.text) ∧ w.cell? ⟨b, i * 3 + 2, none⟩ = some (.int .i64 x.start)

theorem rowL_at : ∀ (xs : List Item) (i : Nat) (x : Item), xs[i]? = some x → (rowL xs)[i * 3]? = some (.int .i64 x.kind) ∧ (rowL xs)[i * 3 + 1]? = some (.string x.text) ∧ (rowL xs)[i * 3 + 2]? = some (.int .i64 x.start)
  | [], _, _, h => by simp at h
  | y :: ys, 0, x, h => by simp at h; subst h; exact ⟨rfl, rfl, rfl⟩
  | y :: ys, i + 1, x, h => by
    have := rowL_at ys i x (by simpa using h)
    have e : ∀ j, (rowL (y :: ys))[(i + 1) * 3 + j]? = (rowL ys)[i * 3 + j]? := by
      intro j
      show (tokCells y ++ rowL ys)[(i + 1) * 3 + j]? = _
      rw [List.getElem?_append_right (by simp [tokCells]; omega)]
      rw [show (i + 1) * 3 + j - (tokCells y).length = i * 3 + j by simp [tokCells]; omega]
    have e0 := e 0
    simp only [Nat.add_zero] at e0
    exact ⟨e0.trans this.1, (e 1).trans this.2.1, (e 2).trans this.2.2⟩

structure OursLoop (w : World) (xs : List Item) (v : Value) (k : Nat) (wr : World) : Prop where
  row : wr.ownsRow w.heap.size 61 3 v k (rowL (xs.take k))
  below : Below w.heap.size w wr

set_option maxHeartbeats 4000000 in
set_option maxRecDepth 100000 in
theorem ours_any (b n c : Nat) (xs : List Item) (w : World) (hn : n = xs.length) (hm : n ≤ 100000) (hb : b < w.heap.size) (hx : itemsAt w b xs) :
    Calls Tryd.prog 12 #[.slice (some ⟨b, 0, none⟩) n c] w fun e w' => ∃ v, e = .returned v ∧ w'.ownsRow w.heap.size 61 3 v n (rowL xs) ∧ Below w.heap.size w w' := by
  obtain ⟨i0, hi, hz0, hz1, hz2⟩ := info_parts Tryd.info61
  have Hn := Lib.hid hn; have Hx := Lib.hid hx
  clear hn hx
  go_enter Tryd.func12, Tryd.ntmps12
  go_wp2
  go_loopw [3, 8] (fun v i wr => ∃ k : Nat, k ≤ n ∧ i = .int .i64 k ∧ OursLoop w xs v k wr) (fun _ i _ => n - (intOf i).toNat)
  case atStart => exact ⟨0, Nat.zero_le _, rfl, ⟨World.ownsRow_nil _ _ _ _, Below.refl _ _⟩⟩
  case round =>
    obtain ⟨k, hk, rfl, hT⟩ := hrel
    by_cases hlt : k < n
    · have hkx : k < xs.length := by have := Hn.out; omega
      have hbr := hT.below.size
      obtain ⟨a0, a1, a2⟩ := Hx.out k xs[k] (List.getElem?_eq_getElem hkx)
      have c0 := (hT.below.cell (p := ⟨b, k * 3, none⟩) hb).trans a0
      have c1 := (hT.below.cell (p := ⟨b, k * 3 + 1, none⟩) hb).trans a1
      have c2 := (hT.below.cell (p := ⟨b, k * 3 + 2, none⟩) hb).trans a2
      have hsn : xs.take (k + 1) = xs.take k ++ [xs[k]] := List.take_succ_eq_append_getElem hkx
      have Hsn := Lib.hid hsn; clear hsn
      have hown := hT.row
      have HT := Lib.hid hT; clear hT a0 a1 a2
      obtain ⟨x, hxk⟩ : ∃ x, xs[k] = x := ⟨_, rfl⟩
      rw [hxk] at c0 c1 c2 Hsn
      clear hxk
      obtain ⟨kd, tx, st, sp, er⟩ := x
      simp only at c0 c1 c2
      go_wp2_with (at_builtin; refine wpList_append_own _ rfl _ _ 23 rfl w.heap.size 61 i0 (.agg #[.int .i64 0, .string ⟨#[]⟩, .int .i64 0]) 3 32 Tryd.underlying23 hi hz0 hz1 hz2 rfl (by decide) _ _ _ rfl ((hown.alloc _).alloc _) ⟨wr.heap.size + 1, 0, none⟩ 1 1 [.int .i64 kd, .string tx, .int .i64 st] rfl rfl ?c1 ?c2 ?c3 ?c4 ?c5 ?_)
      case c1 => intro j u hj; have := three_new (wr.alloc (.cells #[.int .i64 kd, .string tx, .int .i64 st] 59)) (.int .i64 kd) (.string tx) (.int .i64 st) 61 j u hj; simpa using this
      case c2 => simp [Value.oneCell']
      case c3 => unfold maxLen; omega
      case c4 => omega
      case c5 => simp; omega
      · intro v' w1 hown' hgrow _
        have hbig : Below w.heap.size w w1 := ((HT.out.below.alloc hbr _).alloc (by simp; omega) _).grown hgrow (by simp; omega) (fun j hj => (HT.out.row.lt j hj).1)
        have hnew : OursLoop w xs v' (k + 1) w1 := ⟨by rw [Hsn.out, rowL_snoc]; exact hown', hbig⟩
        have Hnew := Lib.hid hnew
        clear hown' hown hgrow hbig hnew
        go_wp2
        go_roundw
        case rel => exact ⟨k + 1, by omega, by go_num, Hnew.out⟩
        case measure => simp [intOf]; omega
    · have hkn : k = n := by omega
      subst hkn
      have hrow := hT.row
      rw [show xs.take k = xs from List.take_of_length_le (by have := Hn.out; omega)] at hrow
      have hbl := hT.below
      have Hrow := Lib.hid hrow; have Hbl := Lib.hid hbl
      clear hrow hbl hT
      go_wp2
      go_ret
      exact ⟨_, rfl, Hrow.out, Hbl.out⟩

theorem ours_nil (w : World) :
    Calls Tryd.prog 12 #[.slice none 0 0] w fun e w' => e = .returned (.slice none 0 0) ∧ Below w.heap.size w w' := by
  go_enter Tryd.func12, Tryd.ntmps12
  go_wp2
  go_loopw [3, 8] (fun v i wr => v = .slice none 0 0 ∧ i = .int .i64 0 ∧ wr = w) (fun _ _ _ => 0)
  case atStart => exact ⟨rfl, rfl, rfl⟩
  case round =>
    obtain ⟨rfl, rfl, rfl⟩ := hrel
    go_wp2
    go_ret
    exact ⟨rfl, Below.refl _ _⟩
end Go.Proofs.YtokdoklkaojheaaDoor

namespace Go.Proofs.YtokdoklkaojheaaDoor
open Go.RowKit

theorem toksF_skip (s : ByteArray) (g p q : Nat) (h : skipL s.data.toList p = skipL s.data.toList q) : toksF s g p = toksF s g q := by
  cases g with
  | zero => rfl
  | succ g => unfold toksF itemAt; rw [h]
theorem toksF_end (s : ByteArray) (g : Nat) : toksF s g s.size = [] := by
  cases g with
  | zero => rfl
  | succ g =>
    have hd : s.data.toList.drop s.size = [] := List.drop_of_length_le (by simp)
    have hk : skipL s.data.toList s.size = (s.size, 0) := by
      rcases blank_skip s.data.toList s.size (by simp) with h | h | ⟨n, h, h1, _⟩
      · exact h.2
      · rw [hd] at h; exact absurd h.1 (by decide)
      · rw [hd] at h
        have : blankL [] = 0 := rfl
        omega
    rw [toksF_succ s g s.size s.size 0 hk, if_pos rfl, if_pos rfl]

/-- what the specification's Tokens returns -/
def RefOut (s : ByteArray) (base : Nat) (w' : World) (v : Value) (off err : Int) : Prop :=
  if 65536 < s.size then v = .slice none 0 0 ∧ off = 0 ∧ err = 23
  else match (toks s).find? badTok with
    | some x => v = .slice none 0 0 ∧ off = x.start ∧ err = x.err
    | none => if 20000 < (toks s).length then v = .slice none 0 0 ∧ (∃ x, (toks s)[20000]? = some x ∧ off = x.start) ∧ err = 5
      else w'.ownsRow base 61 3 v (toks s).length (rowL (toks s)) ∧ off = 0 ∧ err = 0

theorem ownsRow_below {A B : World} {base : Nat} {e : TypeId} {size : Nat} {v : Value} {n : Nat} {xs : List Value} (h : A.ownsRow base e size v n xs) (hb : Below A.heap.size A B) : B.ownsRow base e size v n xs := by
  refine ⟨h.1, ?_⟩
  rcases h.2 with h0 | ⟨g, cap, cur, h1, h2, h3, h4⟩
  · exact .inl h0
  · exact .inr ⟨g, cap, cur, h1, h2, (hb.block g (Array.getElem?_eq_some_iff.1 h3).1).trans h3, h4⟩

theorem readAt_eq (s : ByteArray) (p : Nat) : readL (allRs (s.extract p s.size).data.toList) = readAt s p := by
  unfold readAt; rw [Lib.extract_to_end]

structure TokLoop (s : ByteArray) (w : World) (v : Value) (p : Nat) (wr : World) (pre : List Item) (g : Nat) : Prop where
  le : p ≤ s.size
  fuel : s.size - p + 1 ≤ g
  eq : toks s = pre ++ toksF s g p
  ok : ∀ y ∈ pre, y.err = 0
  row : wr.ownsRow w.heap.size 61 3 v pre.length (rowL pre)
  below : Below w.heap.size w wr
  len : pre.length ≤ p

theorem nlt_self (n : Nat) : decide (n < n) = false := by simp

set_option maxHeartbeats 8000000 in
set_option maxRecDepth 100000 in
theorem refTokens_long (s : ByteArray) (w : World) (hs : s.size ≤ Go.maxLen) (h : 65536 < s.size) :
    Calls Tryd.prog 9 #[.string s] w fun e w' => e = .returned (.tuple #[.slice none 0 0, .int .i64 0, .int .i64 23]) ∧ Below w.heap.size w w' := by
  unfold Go.maxLen at hs
  have d1 : decide ((65536 : Int) < s.size) = true := decide_eq_true (by omega)
  have d1' : decide (65536 < s.size) = true := decide_eq_true h
  clear h
  go_enter Tryd.func9, Tryd.ntmps9
  go_wp2
  go_ret3
  exact ⟨rfl, Below.refl _ _⟩

set_option maxHeartbeats 8000000 in
set_option maxRecDepth 100000 in
theorem refTokens_in (s : ByteArray) (w : World) (hs : s.size ≤ 65536) :
    Calls Tryd.prog 9 #[.string s] w fun e w' => ∃ v off err, e = .returned (.tuple #[v, .int .i64 off, .int .i64 err]) ∧ RefOut s w.heap.size w' v off err ∧ Below w.heap.size w w' := by
  obtain ⟨i0, hi, hz0, hz1, hz2'⟩ := info_parts Tryd.info61
  have d1 : decide ((65536 : Int) < s.size) = false := decide_eq_false (by omega)
  have d1' : decide (65536 < s.size) = false := decide_eq_false (by omega)
  go_enter Tryd.func9, Tryd.ntmps9
  go_wp2
  go_loopw [5, 6] (fun v i wr => ∃ (p : Nat) (pre : List Item) (g : Nat), i = .int .i64 p ∧ TokLoop s w v p wr pre g) (fun _ i _ => s.size - (intOf i).toNat)
  case atStart => exact ⟨0, [], s.size + 1, rfl, ⟨Nat.zero_le _, by omega, rfl, fun y hy => by simp at hy, World.ownsRow_nil _ _ _ _, Below.refl _ _, by simp⟩⟩
  case round =>
    obtain ⟨p, pre, g, rfl, hT⟩ := hrel
    have hp := hT.le
    by_cases hlt : p < s.size
    · have cb := fun w => refBlank_any (s.extract p s.size) w (by simp; omega)
      rw [Lib.extract_to_end] at cb
      rcases blank_skip s.data.toList p (by simpa using hp) with ⟨hb, hk⟩ | ⟨hb, hk⟩ | ⟨n, hb, hn1, hn2, hk⟩
      · rw [hb] at cb
        have cr := fun w => refRead_any (s.extract p s.size) p w (by simp; omega) (by simp; omega)
        rw [readAt_eq] at cr
        have hle := readAt_le s p hp
        have hpos : (readAt s p).2.2 = 0 → 0 < (readAt s p).2.1 := fun h => readL_pos _ h
        obtain ⟨g', rfl⟩ : ∃ g', g = g' + 1 := ⟨g - 1, by have := hT.fuel; omega⟩
        have he := toksF_succ s g' p p 0 hk
        rw [if_pos rfl, if_neg (by omega)] at he
        obtain ⟨⟨rk, re, rr⟩, hr⟩ : ∃ r, readAt s p = r := ⟨_, rfl⟩
        rw [hr] at cr hle hpos he
        simp only at hle hpos he
        clear hr
        have hpre := hT.eq
        rw [he] at hpre
        by_cases hrr : rr = 0
        · subst hrr
          rw [if_pos rfl] at hpre
          have hre := hpos rfl
          rw [tkV_ok] at cr
          have htx : ((s.extract p s.size).extract 0 re).size = re := by simp; omega
          obtain ⟨T, hTx⟩ : ∃ T, (s.extract p s.size).extract 0 re = T := ⟨_, rfl⟩
          rw [hTx] at cr hpre htx
          have hlen := hT.len
          have hbr := hT.below.size
          have Cb := Lib.hid cb; have Cr := Lib.hid cr; have HT := Lib.hid hT; have Hpre := Lib.hid hpre
          clear cb cr hT hpre he hpos hTx hb hk
          go_wp2_with fail
          refine (Cb.out _).mono ?_; rintro e w1 ⟨rfl, rfl⟩
          go_wp2_with fail
          refine (Cr.out _).mono ?_; rintro e w2 ⟨rfl, hb2⟩
          have hown : w2.ownsRow w.heap.size 61 3 _ pre.length (rowL pre) := ownsRow_below HT.out.row hb2
          have hB2 := HT.out.below.trans (hb2.mono hbr)
          have hz2 := hB2.size
          have HB2 := Lib.hid hB2; clear hB2 hb2
          go_wp2_with (at_builtin; refine wpList_append_own _ rfl _ _ 23 rfl w.heap.size 61 i0 (.agg #[.int .i64 0, .string ⟨#[]⟩, .int .i64 0]) 3 32 Tryd.underlying23 hi hz0 hz1 hz2' rfl (by decide) _ _ _ rfl ((hown.alloc _).alloc _) ⟨w2.heap.size + 1, 0, none⟩ 1 1 [.int .i64 rk, .string T, .int .i64 p] rfl rfl ?c1 ?c2 ?c3 ?c4 ?c5 ?_)
          case c1 => intro j u hj; have := three_new (w2.alloc (.cells #[.int .i64 rk, .string T, .int .i64 p] 61)) (.int .i64 rk) (.string T) (.int .i64 p) 61 j u hj; simpa using this
          case c2 => simp [Value.oneCell']
          case c3 => unfold maxLen; omega
          case c4 => omega
          case c5 => simp; omega
          · intro v' w3 hown' hgrow _
            have hbig : Below w.heap.size w w3 := ((HB2.out.alloc hz2 _).alloc (by simp; omega) _).grown hgrow (by simp; omega) (fun j hj => (hown.lt j hj).1)
            have hbox : w3.cell? ⟨w2.heap.size, 1, none⟩ = some (.string T) := by
              have h1 := hgrow.block w2.heap.size (by simp; omega) (fun e => by have := (hown.lt _ e.symm).2; omega)
              have h2 := World.cell?_of_block (a := (⟨w2.heap.size, 1, none⟩ : Addr)) h1
              rw [h2, World.cell?_alloc_lt _ _ _ (by simp)]
              simp
            have hnew : TokLoop s w v' (p + re) w3 (pre ++ [⟨rk, T, p, p + re, 0⟩]) g' := by
              refine ⟨hle, by have := HT.out.fuel; omega, by rw [Hpre.out]; simp, ?_, ?_, hbig, by simp; omega⟩
              · intro y hy
                rcases List.mem_append.1 hy with h | h
                · exact HT.out.ok y h
                · rw [List.mem_singleton.1 h]
              · rw [rowL_snoc, List.length_append]; exact hown'
            have Hnew := Lib.hid hnew
            clear hown' hown hgrow hbig hnew
            go_wp2
            go_roundw
            case rel => exact ⟨p + re, _, g', by go_num, Hnew.out⟩
            case measure => simp [intOf]; omega
        · have hout : ∀ W, RefOut s w.heap.size W (.slice none 0 0) p rr := by
            intro W
            unfold RefOut
            rw [if_neg (by omega)]
            rw [if_neg hrr] at hpre
            have hf := find_bad (xs := toks s) (pre' := pre) (x := ⟨rk, (s.extract p s.size).extract 0 re, p, p + re, rr⟩) (by rw [hpre]; exact List.prefix_refl _) hrr hT.ok
            rw [hf]
            exact ⟨rfl, rfl, rfl⟩
          rw [tkV_bad _ _ _ _ _ hrr] at cr
          have dr : (rr != 0) = true := by simpa using hrr
          have hbr := hT.below.size
          have hbel := hT.below
          have Cb := Lib.hid cb; have Cr := Lib.hid cr; have Hout := Lib.hid hout; have Hbel := Lib.hid hbel
          clear cb cr hout hbel hT hpre he hpos hrr hb hk
          go_wp2_with fail
          refine (Cb.out _).mono ?_; rintro e w1 ⟨rfl, rfl⟩
          go_wp2_with fail
          refine (Cr.out _).mono ?_; rintro e w2 ⟨rfl, hb2⟩
          have hB2 := Hbel.out.trans (hb2.mono hbr)
          have HB2 := Lib.hid hB2; clear hB2 hb2
          go_wp2
          go_ret3
          exact ⟨_, _, _, rfl, Hout.out _, HB2.out.alloc HB2.out.size _⟩
      · have db : decide (blankL (s.data.toList.drop p) < 0) = true := decide_eq_true hb
        obtain ⟨g', rfl⟩ : ∃ g', g = g' + 1 := ⟨g - 1, by have := hT.fuel; omega⟩
        have hout : ∀ W, RefOut s w.heap.size W (.slice none 0 0) p 22 := by
          intro W
          unfold RefOut
          rw [if_neg (by omega)]
          have he := toksF_succ s g' p p 22 hk
          rw [if_neg (by decide)] at he
          have h1 := hT.eq
          rw [he] at h1
          have hf := find_bad (xs := toks s) (pre' := pre) (x := ⟨0, ⟨#[]⟩, p, p, 22⟩) (by rw [h1]; exact List.prefix_refl _) (show (22 : Int) ≠ 0 by decide) hT.ok
          rw [hf]
          exact ⟨rfl, rfl, rfl⟩
        have hbel := hT.below
        obtain ⟨b, hbv⟩ : ∃ b, blankL (s.data.toList.drop p) = b := ⟨_, rfl⟩
        rw [hbv] at cb db
        have Cb := Lib.hid cb; have Hout := Lib.hid hout; have Hbel := Lib.hid hbel
        clear cb hout hbel hT hb hk hbv
        go_wp2_with fail
        refine (Cb.out _).mono ?_; rintro e w1 ⟨rfl, rfl⟩
        go_wp2
        go_ret3
        exact ⟨_, _, _, rfl, Hout.out _, Hbel.out⟩
      · rw [hb] at cb
        have db : decide ((n : Int) < 0) = false := decide_eq_false (by omega)
        have db2 : decide ((0 : Int) < n) = true := decide_eq_true (by omega)
        have db2' : decide (0 < n) = true := decide_eq_true hn1
        have hn3 : p + n ≤ s.size := by simpa using hn2
        have hnew : TokLoop s w _ (p + n) wr pre g := ⟨hn3, by have := hT.fuel; omega, by rw [← toksF_skip s g p (p + n) hk]; exact hT.eq, hT.ok, hT.row, hT.below, by have := hT.len; omega⟩
        have Cb := Lib.hid cb; have Hnew := Lib.hid hnew
        clear cb hnew hT hb hk
        go_wp2_with fail
        refine (Cb.out _).mono ?_; rintro e w1 ⟨rfl, rfl⟩
        go_wp2
        go_roundw
        case rel => exact ⟨p + n, pre, g, by go_num, Hnew.out⟩
        case measure => simp [intOf]; omega
    · have hpe : p = s.size := by omega
      subst hpe
      have htoks : toks s = pre := by rw [hT.eq, toksF_end]; simp
      have hok := find_ok hT.ok
      have hrow := hT.row
      have hbel := hT.below
      have hmx := hT.len
      have Hbel := Lib.hid hbel
      rcases hrow.2 with ⟨rfl, hn0⟩ | ⟨gb, cap, cur, rfl, hgb, hcur, hx⟩
      · have hout : RefOut s w.heap.size wr (.slice none 0 0) 0 0 := by
          unfold RefOut
          rw [if_neg (by omega), htoks, hok]
          simp only
          rw [if_neg (by omega)]
          exact ⟨hrow, trivial, trivial⟩
        have Hout := Lib.hid hout
        clear hout hrow hT hbel hok htoks
        go_wp2
        go_ret3
        exact ⟨_, _, _, rfl, Hout.out, Hbel.out⟩
      · by_cases hmany : 20000 < pre.length
        · have d2 : decide ((20000 : Int) < (pre.length : Int)) = true := decide_eq_true (by omega)
          have d2' : decide (20000 < pre.length) = true := decide_eq_true hmany
          obtain ⟨x, hx0⟩ : ∃ x, pre[20000]? = some x := ⟨_, List.getElem?_eq_getElem hmany⟩
          have hmi : (20000 : Int) < (pre.length : Int) := by omega
          have hc : wr.cell? ⟨gb, 60002, none⟩ = some (.int .i64 x.start) := hrow.cells (g := gb) rfl 60002 _ (rowL_start _ _ _ hx0)
          have hout : ∀ W, RefOut s w.heap.size W (.slice none 0 0) x.start 5 := by
            intro W
            unfold RefOut
            rw [if_neg (by omega), htoks, hok]
            simp only
            rw [if_pos hmany]
            exact ⟨trivial, ⟨x, hx0, rfl⟩, trivial⟩
          have Hout := Lib.hid hout
          clear hout hrow hT hbel hok htoks hx0 hcur hx
          go_wp2
          go_quiet (fail)
          go_wp2
          go_ret3
          exact ⟨_, _, _, rfl, Hout.out _, below_drewN Hbel.out _⟩
        · have d2 : decide ((20000 : Int) < (pre.length : Int)) = false := decide_eq_false (by omega)
          have d2' : decide (20000 < pre.length) = false := decide_eq_false hmany
          have hout : RefOut s w.heap.size wr (.slice (some ⟨gb, 0, none⟩) pre.length cap) 0 0 := by
            unfold RefOut
            rw [if_neg (by omega), htoks, hok]
            simp only
            rw [if_neg hmany]
            exact ⟨hrow, trivial, trivial⟩
          have Hout := Lib.hid hout
          clear hout hrow hT hbel hok htoks hcur hx
          go_wp2
          go_ret3
          exact ⟨_, _, _, rfl, Hout.out, Hbel.out⟩
end Go.Proofs.YtokdoklkaojheaaDoor

namespace Go.Proofs
open Go.Shelf
def Tryd.sortA_ren : Go.Shelf.Ren := ⟨fun | 6 => 75 | 8 => 105 | 9 => 104 | 19 => 127 | 20 => 128 | 21 => 118 | 22 => 119 | 23 => 120 | 24 => 121 | 25 => 122 | 26 => 123 | 27 => 124 | 28 => 125 | 29 => 126 | 36 => 137 | 31 => 138 | 32 => 139 | 37 => 140 | 38 => 141 | 39 => 142 | 41 => 144 | n => n, fun | 27 => 33 | 29 => 9 | 3 => 3 | 32 => 135 | 26 => 33 | 0 => 0 | 44 => 139 | 46 => 157 | 4 => 4 | 36 => 149 | 35 => 148 | 41 => 153 | 5 => 5 | 9 => 9 | 53 => 171 | 57 => 175 | 63 => 181 | 64 => 47 | n => n, fun | n => n⟩
theorem Tryd.sortA : Go.Proofs.SlLaysM.n6 Tryd.prog Tryd.sortA_ren := {
  mixed := by kernel_rfl
  f6 := ⟨Tryd.f75.name, by decide, Tryd.func75.trans (congrArg some (by kernel_rfl))⟩
  f8 := Tryd.func105.trans (congrArg some (by kernel_rfl))
  f9 := ⟨Tryd.f104.name, by decide, Tryd.func104.trans (congrArg some (by kernel_rfl))⟩
  f19 := Tryd.func127.trans (congrArg some (by kernel_rfl))
  f20 := Tryd.func128.trans (congrArg some (by kernel_rfl))
  f21 := ⟨Tryd.f118.name, by decide, Tryd.func118.trans (congrArg some (by kernel_rfl))⟩
  f22 := ⟨Tryd.f119.name, by decide, Tryd.func119.trans (congrArg some (by kernel_rfl))⟩
  f23 := ⟨Tryd.f120.name, by decide, Tryd.func120.trans (congrArg some (by kernel_rfl))⟩
  f24 := ⟨Tryd.f121.name, by decide, Tryd.func121.trans (congrArg some (by kernel_rfl))⟩
  f25 := ⟨Tryd.f122.name, by decide, Tryd.func122.trans (congrArg some (by kernel_rfl))⟩
  f26 := ⟨Tryd.f123.name, by decide, Tryd.func123.trans (congrArg some (by kernel_rfl))⟩
  f27 := ⟨Tryd.f124.name, by decide, Tryd.func124.trans (congrArg some (by kernel_rfl))⟩
  f28 := ⟨Tryd.f125.name, by decide, Tryd.func125.trans (congrArg some (by kernel_rfl))⟩
  f29 := ⟨Tryd.f126.name, by decide, Tryd.func126.trans (congrArg some (by kernel_rfl))⟩
  f31 := Tryd.func138.trans (congrArg some (by kernel_rfl))
  f32 := Tryd.func139.trans (congrArg some (by kernel_rfl))
  f36 := ⟨Tryd.f137.name, by decide, Tryd.func137.trans (congrArg some (by kernel_rfl))⟩
  f37 := ⟨Tryd.f140.name, by decide, Tryd.func140.trans (congrArg some (by kernel_rfl))⟩
  f38 := ⟨Tryd.f141.name, by decide, Tryd.func141.trans (congrArg some (by kernel_rfl))⟩
  f39 := ⟨Tryd.f142.name, by decide, Tryd.func142.trans (congrArg some (by kernel_rfl))⟩
  f41 := ⟨Tryd.f144.name, by decide, Tryd.func144.trans (congrArg some (by kernel_rfl))⟩
  t0 := Tryd.underlying0
  a0 := Tryd.isAgg0
  z0 := Tryd.sizeOf0
  v0 := Tryd.zeroValue0
  t3 := Tryd.underlying3
  a3 := Tryd.isAgg3
  z3 := Tryd.sizeOf3
  v3 := Tryd.zeroValue3
  t4 := Tryd.underlying4
  a4 := Tryd.isAgg4
  z4 := Tryd.sizeOf4
  v4 := Tryd.zeroValue4
  t5 := Tryd.underlying5
  a5 := Tryd.isAgg5
  z5 := Tryd.sizeOf5
  v5 := Tryd.zeroValue5
  t9 := Tryd.underlying9
  a9 := Tryd.isAgg9
  z9 := Tryd.sizeOf9
  v9 := Tryd.zeroValue9
  t26 := Tryd.underlying33
  a26 := Tryd.isAgg33
  z26 := Tryd.sizeOf33
  v26 := Tryd.zeroValue33
  t27 := Tryd.underlying33
  a27 := Tryd.isAgg33
  z27 := Tryd.sizeOf33
  v27 := Tryd.zeroValue33
  t29 := Tryd.underlying9
  a29 := Tryd.isAgg9
  z29 := Tryd.sizeOf9
  v29 := Tryd.zeroValue9
  t32 := Tryd.underlying135
  a32 := Tryd.isAgg135
  z32 := Tryd.sizeOf135
  v32 := Tryd.zeroValue135
  t35 := Tryd.underlying148
  a35 := Tryd.isAgg148
  z35 := Tryd.sizeOf148
  v35 := Tryd.zeroValue148
  t36 := Tryd.underlying149
  a36 := Tryd.isAgg149
  z36 := Tryd.sizeOf149
  v36 := Tryd.zeroValue149
  t41 := Tryd.underlying153
  a41 := Tryd.isAgg153
  z41 := Tryd.sizeOf153
  v41 := Tryd.zeroValue153
  t44 := Tryd.underlying139
  a44 := Tryd.isAgg139
  z44 := Tryd.sizeOf139
  v44 := Tryd.zeroValue139
  t46 := Tryd.underlying157
  a46 := Tryd.isAgg157
  z46 := Tryd.sizeOf157
  v46 := Tryd.zeroValue157
  t53 := Tryd.underlying171
  a53 := Tryd.isAgg171
  z53 := Tryd.sizeOf171
  v53 := Tryd.zeroValue171
  t57 := Tryd.underlying175
  a57 := Tryd.isAgg175
  z57 := Tryd.sizeOf175
  v57 := Tryd.zeroValue175
  t63 := Tryd.underlying181
  a63 := Tryd.isAgg181
  z63 := Tryd.sizeOf181
  v63 := Tryd.zeroValue181
  t64 := Tryd.underlying47
  a64 := Tryd.isAgg47
  z64 := Tryd.sizeOf47
  v64 := Tryd.zeroValue47 }
end Go.Proofs

namespace Go.Proofs.YtokdoklkaojheaaDoor
open Go.RowKit Go.Shelf

attribute [local go_sem] Oper.semAt_some

/-- the strings that have come when k rounds are over -/
def strsTo (zs : List ByteArray) (k : Nat) : List ByteArray := zs.take k
theorem strsTo_succ (zs : List ByteArray) {k : Nat} (hk : k < zs.length) : strsTo zs (k + 1) = strsTo zs k ++ [zs[k]?.getD ByteArray.empty] := by
  simp only [strsTo, List.take_add_one]
  rw [List.getElem?_eq_getElem hk]; rfl
theorem strsTo_length (zs : List ByteArray) {k : Nat} (hk : k ≤ zs.length) : (strsTo zs k).length = k := by simp [strsTo, hk]

set_option maxRecDepth 100000 in
set_option maxHeartbeats 4000000 in
/-- slices.Values' closure at strings -/
theorem values1_in (F : Fence) (n : Nat) (h7 : F.fn 76) (hro : F.round = none) (hn : 1 ≤ n) (l Bs n₀ b off len cap : Nat) (zs : List ByteArray) (hl : len = zs.length) (hreach : len * 16 ≤ 140737488351232) (hb : b < n₀) (J Jx : List ByteArray → World → Prop)
    (hY : ∀ pre x W, J pre W → pre.length < len → YieldAt F (n - 1) Tryd.prog l #[.string x] W fun e W' =>
      (e = .returned (.bool true) ∧ J (pre ++ [x]) W' ∧ Below n₀ W W') ∨ (e = .returned (.bool false) ∧ Jx (pre ++ [x]) W'))
    (W : World) (hBs : W.cell? ⟨Bs, 0, none⟩ = some (.slice (some ⟨b, off, none⟩) len cap)) (hc : ∀ j, j < len → W.cell? ⟨b, off + j, none⟩ = some (.string (zs[j]?.getD ByteArray.empty))) (h0 : J [] W) :
    CallsIn F n Tryd.prog 76 #[.func (.yield l) #[] #[], .pointer (some ⟨Bs, 0, none⟩)] W fun e W' => (∃ v, e = .returned v) ∧
      (J zs W' ∨ (∃ pre, pre <+: zs ∧ Jx pre W')) := by
  have Hl := Lib.hid hl
  clear hl
  refine callsIn_of_wp Tryd.func76 rfl h7 ?_ hro
  simp only [Tryd.ntmps76, List.size_toArray, List.length_cons, List.length_nil, Nat.reduceAdd, Nat.reduceSub, Array.replicate_succ, Array.replicate_zero, List.push_toArray, List.append_toArray, List.nil_append, List.cons_append]
  gi_wp2
  gi_loopw [7] (fun i wr => ∃ k : Nat, k ≤ len ∧ i = .int .i64 k ∧ J (strsTo zs k) wr ∧ Below n₀ W wr)
    (fun i _ => len - (intOf i).toNat)
  case atStart => exact ⟨0, Nat.zero_le _, rfl, h0, Below.refl _ _⟩
  case round =>
    obtain ⟨k, hk, rfl, hJs, hnx⟩ := hrel
    have hcx : k < len → wr.cell? ⟨b, off + k, none⟩ = some (.string (zs[k]?.getD ByteArray.empty)) := fun h => (hnx.cell (p := ⟨b, off + k, none⟩) hb).trans (hc k h)
    by_cases hlt : k < len
    · obtain ⟨fn, tmps, assign, body, hy, hR⟩ := hY _ (zs[k]?.getD ByteArray.empty) wr hJs (by rw [strsTo_length _ (by rw [← Hl.out]; exact hk)]; exact hlt)
      have hcx' := hcx hlt
      gi_wp2
      refine hR.mono ?_
      rintro e W3 (⟨rfl, hJ3, hk3⟩ | ⟨rfl, hJx3⟩)
      · gi_wp2
        go_roundw
        case rel => exact ⟨k + 1, by omega, by simp, by rw [strsTo_succ _ (by rw [← Hl.out]; exact hlt)]; exact hJ3, hnx.trans hk3⟩
        case measure => simp [intOf]; omega
      · gi_wp2
        refine bodyPost_ret (results_none rfl _ _ _) rfl ?_
        refine ⟨⟨_, rfl⟩, .inr ⟨_, ?_, hJx3⟩⟩
        rw [← strsTo_succ _ (by rw [← Hl.out]; exact hlt)]; exact List.take_prefix _ _
    · obtain rfl : k = len := by omega
      gi_wp2
      go_end0
      refine ⟨⟨_, rfl⟩, .inl ?_⟩
      have : strsTo zs k = zs := by rw [strsTo, Hl.out]; exact List.take_length
      rw [this] at hJs; exact hJs

set_option maxHeartbeats 2000000 in
/-- slices.Values at strings: a box -/
theorem values_in (F : Fence) (n : Nat) (h5 : F.fn 39) (hro : F.round = none) (a : Option Addr) (len cap : Nat) (w : World) :
    CallsIn F n Tryd.prog 39 #[.slice a len cap] w fun e w' => e = .returned (.func (.func 76) #[] #[.pointer (some ⟨w.heap.size, 0, none⟩)]) ∧ w' = w.alloc (.cells #[.slice a len cap] 33) := by
  refine callsIn_of_wp Tryd.func39 rfl h5 ?_ hro
  simp only [Tryd.ntmps39, List.size_toArray, List.length_cons, List.length_nil, Nat.reduceAdd, Nat.reduceSub, Array.replicate_succ, Array.replicate_zero, List.push_toArray, List.append_toArray, List.nil_append, List.cons_append]
  gi_wp2
  go_ret
  exact ⟨rfl, rfl⟩

end Go.Proofs.YtokdoklkaojheaaDoor

namespace Go.Proofs.YtokdoklkaojheaaDoor
open Go.RowKit Go.Shelf

attribute [local go_sem] Oper.semAt_some

theorem values_stops (F : Fence) (n : Nat) (h7 : F.fn 76) (hro : F.round = none) (hn : 1 ≤ n) (Bs n₀ b off cap : Nat) (zs : List ByteArray) (hreach : zs.length * 16 ≤ 140737488351232) (w : World) (hBs : Bs < w.heap.size) (hn₀ : n₀ ≤ w.heap.size) (hb : b < n₀)
    (hc : w.cell? ⟨Bs, 0, none⟩ = some (.slice (some ⟨b, off, none⟩) zs.length cap)) (hI : ∀ j, j < zs.length → w.cell? ⟨b, off + j, none⟩ = some (.string (zs[j]?.getD ByteArray.empty))) :
    SeqStopsK F n Tryd.prog 76 #[.pointer (some ⟨Bs, 0, none⟩)] (fun x : ByteArray => #[Value.string x]) (Below n₀) (fun ys => ys = zs) (fun pre => pre <+: zs) zs.length w := fun l J Jx W hW _ _ hY h0 => by
  have hc' := (hW.cell (p := ⟨Bs, 0, none⟩) hBs).trans hc
  have hW' := hW.mono hn₀
  refine (values1_in F n h7 hro hn l Bs n₀ b off zs.length cap zs rfl hreach hb J Jx hY W hc' (fun j hj => (hW'.cell (p := ⟨b, off + j, none⟩) hb).trans (hI j hj)) h0).mono ?_
  rintro e W' ⟨he, hj | ⟨pre, hp, hj⟩⟩
  · exact ⟨he, .inl ⟨_, rfl, hj⟩⟩
  · exact ⟨he, .inr ⟨_, hp, hj⟩⟩

theorem Tryd.info9 : (Tryd.prog.info? 9).map (fun i => (i.zero, i.size, i.bytes)) = some (some (.string ⟨#[]⟩), 1, 16) := by kernel_rfl

def strRow (zs : List ByteArray) : List Value := zs.map Value.string
theorem strRow_snoc (pre : List ByteArray) (x : ByteArray) : strRow (pre ++ [x]) = strRow pre ++ [Value.string x] := by simp [strRow]

theorem one_new (w : World) (a : Value) (t : TypeId) : ∀ (j : Nat) (u : Value), [a][j]? = some u → (w.alloc (.cells #[a] t)).cell? ((⟨w.heap.size, 0, none⟩ : Addr).add j) = some u
  | 0, _, h => by simp [Addr.add] at h ⊢; exact h
  | j + 1, _, h => by simp at h

set_option maxRecDepth 100000 in
set_option maxHeartbeats 4000000 in
theorem appendSeq_in (n : Nat) (hn : 4 ≤ n) (Bs b off cap : Nat) (zs : List ByteArray) (hreach : zs.length ≤ 100000) (w : World) (hBs : Bs < w.heap.size) (hb : b < w.heap.size)
    (hc : w.cell? ⟨Bs, 0, none⟩ = some (.slice (some ⟨b, off, none⟩) zs.length cap)) (hI : ∀ j, j < zs.length → w.cell? ⟨b, off + j, none⟩ = some (.string (zs[j]?.getD ByteArray.empty))) :
    CallsIn Fence.wide n Tryd.prog 103 #[.slice none 0 0, .func (.func 76) #[] #[.pointer (some ⟨Bs, 0, none⟩)]] w fun e w' => ∃ v, e = .returned v ∧ w'.ownsRow w.heap.size 9 1 v zs.length (strRow zs) ∧ Below w.heap.size w w' := by
  have h1 : 1 ≤ n := by omega
  refine callsIn_of_wp_marks Tryd.func103 rfl trivial ?_ rfl
  simp only [Tryd.ntmps103, List.size_toArray, List.length_cons, List.length_nil, Nat.reduceAdd, Nat.reduceSub, Array.replicate_succ, Array.replicate_zero, List.push_toArray, List.append_toArray, List.nil_append, List.cons_append]
  obtain ⟨i0, hi, iz0, iz1, iz2⟩ := info_parts Tryd.info9
  gi_wp2_with fail
  have bS : Boxed (w.alloc (.cells #[.slice none 0 0] 33)) w.heap.size 33 (.slice none 0 0) := Boxed.new w 33 (.slice none 0 0)
  have hB0 : Below w.heap.size w (w.alloc (.cells #[.slice none 0 0] 33)) := (Below.refl _ w).alloc (Nat.le_refl _) _
  refine wpIn_rangeFunc_ownG rfl h1 (gf := 76) (lb := #[.pointer (some ⟨Bs, 0, none⟩)]) rfl trivial (enters_of Tryd.func76 (by kernel_rfl) rfl)
    (values_stops Fence.wide (n - 1) trivial rfl (by omega) Bs w.heap.size b off cap zs (by omega) _ (by simp; omega) (by simp) hb ((hB0.cell (p := ⟨Bs, 0, none⟩) hBs).trans hc) (fun j hj => (hB0.cell (p := ⟨b, off + j, none⟩) hb).trans (hI j hj))) belowK_t (belowK_b (by simp)) (Below.refl _ _) (fun _ => rfl)
    (fun pre W => (∃ v, Boxed W w.heap.size 33 v ∧ W.ownsRow w.heap.size 9 1 v pre.length (strRow pre) ∧ True) ∧ Below w.heap.size w W)
    (fun _ _ _ => False)
    (OwnFrom.and (Own.from (holdsRow_own w.heap.size w.heap.size 33 9 1 (fun pre : List ByteArray => pre.length) strRow (fun _ _ => True)) _) (ownFrom_below (Nat.le_refl _) (by simp)))
    (fun _ _ _ _ _ hs _ _ => hs)
    ⟨⟨_, bS, World.ownsRow_nil _ _ _ _, trivial⟩, hB0⟩
    (fun x => { tmps := #[.slice none 0 0, .func (.func 76) #[] #[.pointer (some ⟨Bs, 0, none⟩)], .pointer (some ⟨w.heap.size, 0, none⟩), undef, .slice none 0 0, .string x, .func (.func 76) #[] #[.pointer (some ⟨Bs, 0, none⟩)], .string x, undef, undef, undef, undef, undef], defers := [] }) ?assign ?body ?done ?stop
  case assign =>
    intro l x W K hK
    gi_wp2
    exact hK
  case body =>
    rintro l pre x W ⟨⟨v, hv, hrow, -⟩, hB⟩ hlt
    have c0 := hv.cell
    have f0 := hv.frozen
    have hgeW : w.heap.size ≤ (W.alloc (.cells #[.string x] 9)).heap.size := by have := hB.size; simp; omega
    have hpl : pre.length + 1 ≤ 100000 := by omega
    gi_wp2_with (gi_at_builtin; refine wpListIn_append_own _ rfl _ _ 33 rfl w.heap.size 9 i0 (.string ⟨#[]⟩) 1 16 Tryd.underlying33 hi iz0 iz1 iz2 rfl (by decide) _ _ _ rfl (hrow.alloc _) ⟨W.heap.size, 0, none⟩ 1 1 [.string x] rfl rfl (one_new _ _ _) (by simp [Value.oneCell']) (by unfold maxLen; omega) (by omega) hgeW ?_; intro v' w3 hown' hgrow _; obtain ⟨g', cap', rfl⟩ := ownsRow_succ hown'; obtain ⟨hv1, hv2, hr2, hk2, hb2⟩ := hv.appended (by decide) hrow hB.size (Nat.le_refl _) hown' hgrow; have hc1 := hv1.cell; have hf1 := hv1.frozen)
    exact ⟨hk2.from _, hb2, ⟨_, hv2, by rw [strRow_snoc, List.length_append]; exact hr2, trivial⟩, hB.trans hb2⟩
  case done =>
    rintro D ys W hD rfl ⟨⟨v, hv, hrow, -⟩, hB⟩ hK
    have c0 := hv.cell
    gi_wp2
    refine ⟨by simp, .inl ⟨_, _, rfl, run_takeDeferred hK, ?_⟩⟩
    refine ⟨_, results_tmp rfl _ _ _, v, rfl, ?_⟩
    exact ⟨ownsRow_putObj hrow (.deferred none) hK rfl, hB.trans (belowK_b (w := w) (Nat.le_refl _) W D _ _ (by simp at hD; omega) hK rfl rfl)⟩
  case stop =>
    rintro D c pre W _ _ h _
    exact h.elim
end Go.Proofs.YtokdoklkaojheaaDoor

namespace Go.Proofs.YtokdoklkaojheaaDoor
open Go.RowKit Go.Shelf

set_option maxRecDepth 100000 in
set_option maxHeartbeats 4000000 in
theorem collect_in (n : Nat) (hn : 5 ≤ n) (Bs b off cap : Nat) (zs : List ByteArray) (hreach : zs.length ≤ 100000) (w : World) (hBs : Bs < w.heap.size) (hb : b < w.heap.size)
    (hc : w.cell? ⟨Bs, 0, none⟩ = some (.slice (some ⟨b, off, none⟩) zs.length cap)) (hI : ∀ j, j < zs.length → w.cell? ⟨b, off + j, none⟩ = some (.string (zs[j]?.getD ByteArray.empty))) :
    CallsIn Fence.wide n Tryd.prog 74 #[.func (.func 76) #[] #[.pointer (some ⟨Bs, 0, none⟩)]] w fun e w' => ∃ v, e = .returned v ∧ w'.ownsRow w.heap.size 9 1 v zs.length (strRow zs) ∧ Below w.heap.size w w' := by
  refine callsIn_of_wp Tryd.func74 rfl trivial ?_ rfl
  simp only [Tryd.ntmps74, List.size_toArray, List.length_cons, List.length_nil, Nat.reduceAdd, Nat.reduceSub, Array.replicate_succ, Array.replicate_zero, List.push_toArray, List.append_toArray, List.nil_append, List.cons_append]
  gi_wp2_with fail
  refine ⟨trivial, fun _ => by omega, (appendSeq_in (n - 1) (by omega) Bs b off cap zs hreach _ hBs hb hc hI).mono ?_⟩
  rintro e w1 ⟨v, rfl, hrow, hB⟩
  gi_wp2
  go_ret
  exact ⟨v, rfl, hrow, hB⟩
end Go.Proofs.YtokdoklkaojheaaDoor

namespace Go.Proofs.YtokdoklkaojheaaDoor
open Go.RowKit Go.Shelf Go.Sort

theorem sort_some (blk off cap : Nat) (ss : List (List UInt8)) (w : World) (hH : Holds encStr w blk off ss.toArray) (hblk : blk < w.heap.size) (hsz : ss.length < 4611686018427387904) :
    Calls Tryd.prog 75 #[.slice (some ⟨blk, off, none⟩) ss.length cap] w fun e w' =>
      e = .returned (.tuple #[]) ∧ ∃ n os, w' = grow (putRow encStr (Sort.ahead w n) blk off (ss.mergeSort fun x y => decide (x ≤ y)).toArray) os :=
  AnyM.slices_Sort_string Tryd.sortA blk off cap ss w hH hblk hsz

theorem strRow_enc (zs : List ByteArray) : strRow zs = (zs.map (fun b => b.data.toList)).map encStr := by
  simp only [strRow, List.map_map]
  rfl

def sortZ (zs : List ByteArray) : List (List UInt8) := (zs.map (fun b => b.data.toList)).mergeSort (fun x y => decide (x ≤ y))

set_option maxRecDepth 100000 in
set_option maxHeartbeats 4000000 in
theorem sorted_in (n : Nat) (hn : 6 ≤ n) (Bs b off cap : Nat) (zs : List ByteArray) (hz : 0 < zs.length) (hreach : zs.length ≤ 100000) (w : World) (hBs : Bs < w.heap.size) (hb : b < w.heap.size)
    (hc : w.cell? ⟨Bs, 0, none⟩ = some (.slice (some ⟨b, off, none⟩) zs.length cap)) (hI : ∀ j, j < zs.length → w.cell? ⟨b, off + j, none⟩ = some (.string (zs[j]?.getD ByteArray.empty))) :
    CallsIn Fence.wide n Tryd.prog 38 #[.func (.func 76) #[] #[.pointer (some ⟨Bs, 0, none⟩)]] w fun e w' => ∃ v, e = .returned v ∧ w'.ownsRow w.heap.size 9 1 v zs.length ((sortZ zs).map encStr) ∧ Below w.heap.size w w' := by
  obtain ⟨ss, hss⟩ : ∃ ss, ss = zs.map (fun b => b.data.toList) := ⟨_, rfl⟩
  have hlen : zs.length = ss.length := by rw [hss]; simp
  unfold sortZ
  rw [← hss]
  have Hlen := Lib.hid hlen
  have Hss := Lib.hid hss
  clear hlen hss
  refine callsIn_of_wp Tryd.func38 rfl trivial ?_ rfl
  simp only [Tryd.ntmps38, List.size_toArray, List.length_cons, List.length_nil, Nat.reduceAdd, Nat.reduceSub, Array.replicate_succ, Array.replicate_zero, List.push_toArray, List.append_toArray, List.nil_append, List.cons_append]
  gi_wp2_with fail
  refine ⟨trivial, fun _ => by omega, (collect_in (n - 1) (by omega) Bs b off cap zs hreach _ hBs hb hc hI).mono ?_⟩
  rintro e w1 ⟨v, rfl, hrow, hB⟩
  rw [strRow_enc, ← Hss.out, Hlen.out] at hrow
  have hz' : 0 < ss.length := by rw [← Hlen.out]; exact hz
  have hsz : ss.length < 4611686018427387904 := by rw [← Hlen.out]; omega
  rcases hrow.2 with ⟨rfl, hz0⟩ | ⟨gb, cap2, cur, rfl, hbase, hgb, r1, r2, r3, r4⟩
  · omega
  · have hH : Holds encStr w1 gb 0 ss.toArray := holds_of_block hgb (by simpa using r4)
    have hgl : gb < w1.heap.size := (Array.getElem?_eq_some_iff.1 hgb).1
    have cS := (callsIn_wide (n := n - 1)).2 (sort_some gb 0 cap2 ss w1 hH hgl hsz)
    gi_wp2_with fail
    refine ⟨trivial, fun _ => by omega, cS.mono ?_⟩
    rintro e w2 ⟨rfl, nn, os, rfl⟩
    gi_wp2
    go_ret
    rw [Hlen.out]
    exact ⟨_, rfl, ownsRow_sorted (by simp) hbase hgb r1 r2 r3, hB.grown (grownBy_sorted _) hB.size (fun j hj => by cases hj; exact hbase)⟩
end Go.Proofs.YtokdoklkaojheaaDoor

namespace Go.Proofs.YtokdoklkaojheaaDoor
open Go.RowKit Go.Shelf Go.Sort

theorem fields_any (s : ByteArray) (L : List (List UInt8)) (w : World) (hs : s.size < 65536) (hascii : ∀ (j : Nat) b, s.data.toList[j]? = some b → b.toNat < 128)
    (hL : Lib.fields s.data.toList = L) (ht : Tab w) :
    Calls Tryd.prog 40 #[.string s] w fun e w' => e = .returned (.slice (some ⟨w.heap.size, 0, none⟩) L.length L.length) ∧ w' = w.alloc (.cells (L.map fun l => Value.string ⟨l.toArray⟩).toArray 9) := by
  have c := Tryd.strings_Fields s w (by omega) hascii ht
  rw [hL] at c
  exact c

def barr (L : List (List UInt8)) : List ByteArray := L.map fun l => ⟨l.toArray⟩
theorem barr_len (L : List (List UInt8)) : (barr L).length = L.length := by simp [barr]

theorem sort_is (zs ts : List (List UInt8)) (hp : ts.isPerm zs = true) (hs : ts.Pairwise (fun x y => decide (x ≤ y) = true)) : sortZ (barr zs) = ts := by
  have hb : (barr zs).map (fun b => b.data.toList) = zs := by simp [barr, Function.comp_def]
  unfold sortZ
  rw [hb]
  refine List.Perm.eq_of_pairwise (le := fun x y => decide (x ≤ y) = true) ?_ (List.pairwise_mergeSort ?_ ?_ zs) hs ((List.mergeSort_perm zs _).trans (List.isPerm_iff.1 hp).symm)
  · intro a b _ _ h1 h2
    simp only [decide_eq_true_eq] at h1 h2
    exact List.le_antisymm h1 h2
  · intro a b c h1 h2
    simp only [decide_eq_true_eq] at h1 h2 ⊢
    exact List.le_trans h1 h2
  · intro a b
    simp only [Bool.or_eq_true, decide_eq_true_eq]
    exact List.le_total a b

theorem sort_kw : sortZ (barr kwL) = kwRef := sort_is _ _ (by decide +kernel) (by decide +kernel)
theorem sort_sg : sortZ (barr sgL) = sgRef := sort_is _ _ (by decide +kernel) (by decide +kernel)

theorem barr_cells (w : World) (L : List (List UInt8)) (j : Nat) (hj : j < (barr L).length) :
    (w.alloc (.cells (L.map fun l => Value.string ⟨l.toArray⟩).toArray 9)).cell? ⟨w.heap.size, 0 + j, none⟩ = some (.string ((barr L)[j]?.getD ByteArray.empty)) := by
  rw [barr_len] at hj
  simp [barr, hj]

set_option maxRecDepth 100000 in
set_option maxHeartbeats 4000000 in
theorem keywords_in (w : World) (ht : Tab w) :
    CallsIn Fence.wide 8 Tryd.prog 14 #[] w fun e w' => ∃ v, e = .returned v ∧ w'.ownsRow w.heap.size 9 1 v kwL.length (kwRef.map encStr) ∧ Below w.heap.size w w' := by
  have Ht := Lib.hid ht; clear ht
  obtain ⟨L, hL⟩ : ∃ L, kwL = L := ⟨_, rfl⟩
  have hne : 0 < (barr L).length := by rw [barr_len, ← hL]; decide +kernel
  have hle : (barr L).length ≤ 100000 := by rw [barr_len, ← hL]; decide +kernel
  obtain ⟨W1, hW1⟩ : ∃ W1, w.alloc (.cells (L.map fun l => Value.string ⟨l.toArray⟩).toArray 9) = W1 := ⟨_, rfl⟩
  have hsz1 : W1.heap.size = w.heap.size + 1 := by rw [← hW1]; simp
  have hbe1 : Below w.heap.size w W1 := by rw [← hW1]; exact (Below.refl _ w).alloc (Nat.le_refl _) _
  have hbox : (W1.alloc (.cells #[.slice (some ⟨w.heap.size, 0, none⟩) (barr L).length L.length] 33)).cell? ⟨W1.heap.size, 0, none⟩ = some (.slice (some ⟨w.heap.size, 0, none⟩) (barr L).length L.length) := by simp
  have hcs : ∀ j, j < (barr L).length → (W1.alloc (.cells #[.slice (some ⟨w.heap.size, 0, none⟩) (barr L).length L.length] 33)).cell? ⟨w.heap.size, 0 + j, none⟩ = some (.string ((barr L)[j]?.getD ByteArray.empty)) := by
    intro j hj
    exact (World.cell?_alloc_lt W1 _ ⟨w.heap.size, 0 + j, none⟩ (by simp [hsz1])).trans (by rw [← hW1]; exact barr_cells w L j hj)
  have cS := sorted_in 7 (by omega) W1.heap.size w.heap.size 0 L.length (barr L) hne hle _ (by simp) (by simp [hsz1]; omega) hbox hcs
  have cV := values_in Fence.wide 7 trivial rfl (some ⟨w.heap.size, 0, none⟩) (barr L).length L.length W1
  have hks : sortZ (barr L) = kwRef := by rw [← hL]; exact sort_kw
  rw [hks] at cS
  rw [barr_len] at cS cV
  rw [hsz1] at cS cV
  have HL := Lib.hid hL; have HW1 := Lib.hid hW1
  have CS := Lib.hid cS; have CV := Lib.hid cV
  clear hne hle hbox hcs cS cV hks hW1
  rw [HL.out]
  clear hL
  refine callsIn_of_wp Tryd.func14 rfl trivial ?_ rfl
  simp only [Tryd.ntmps14, List.size_toArray, List.length_cons, List.length_nil, Nat.reduceAdd, Nat.reduceSub, Array.replicate_succ, Array.replicate_zero, List.push_toArray, List.append_toArray, List.nil_append, List.cons_append]
  gi_wp2_with fail
  refine ⟨trivial, (callsIn_wide.2 (fields_any _ kwL w (by decide +kernel) (ascii_of _ (by decide +kernel)) (by decide +kernel) Ht.out)).mono ?_⟩
  rintro e w1 ⟨rfl, rfl⟩
  rw [HL.out, HW1.out]
  gi_wp2_with fail
  refine ⟨trivial, CV.out.mono ?_⟩
  rintro e w1 ⟨rfl, rfl⟩
  gi_wp2_with fail
  refine ⟨trivial, CS.out.mono ?_⟩
  rintro e w2 ⟨v, rfl, hrow, hB⟩
  gi_wp2
  go_ret
  exact ⟨v, rfl, ownsRow_mono (by simp [hsz1]; omega) hrow, (hbe1.alloc (by omega) _).trans (hB.mono (by simp [hsz1]; omega))⟩
end Go.Proofs.YtokdoklkaojheaaDoor

namespace Go.Proofs.YtokdoklkaojheaaDoor
open Go.RowKit Go.Shelf Go.Sort

set_option maxRecDepth 100000 in
set_option maxHeartbeats 4000000 in
theorem signs_in (w : World) (ht : Tab w) :
    CallsIn Fence.wide 8 Tryd.prog 16 #[] w fun e w' => ∃ v, e = .returned v ∧ w'.ownsRow w.heap.size 9 1 v sgL.length (sgRef.map encStr) ∧ Below w.heap.size w w' := by
  have Ht := Lib.hid ht; clear ht
  obtain ⟨L, hL⟩ : ∃ L, sgL = L := ⟨_, rfl⟩
  have hne : 0 < (barr L).length := by rw [barr_len, ← hL]; decide +kernel
  have hle : (barr L).length ≤ 100000 := by rw [barr_len, ← hL]; decide +kernel
  obtain ⟨W1, hW1⟩ : ∃ W1, w.alloc (.cells (L.map fun l => Value.string ⟨l.toArray⟩).toArray 9) = W1 := ⟨_, rfl⟩
  have hsz1 : W1.heap.size = w.heap.size + 1 := by rw [← hW1]; simp
  have hbe1 : Below w.heap.size w W1 := by rw [← hW1]; exact (Below.refl _ w).alloc (Nat.le_refl _) _
  have hbox : (W1.alloc (.cells #[.slice (some ⟨w.heap.size, 0, none⟩) (barr L).length L.length] 33)).cell? ⟨W1.heap.size, 0, none⟩ = some (.slice (some ⟨w.heap.size, 0, none⟩) (barr L).length L.length) := by simp
  have hcs : ∀ j, j < (barr L).length → (W1.alloc (.cells #[.slice (some ⟨w.heap.size, 0, none⟩) (barr L).length L.length] 33)).cell? ⟨w.heap.size, 0 + j, none⟩ = some (.string ((barr L)[j]?.getD ByteArray.empty)) := by
    intro j hj
    exact (World.cell?_alloc_lt W1 _ ⟨w.heap.size, 0 + j, none⟩ (by simp [hsz1])).trans (by rw [← hW1]; exact barr_cells w L j hj)
  have cS := sorted_in 7 (by omega) W1.heap.size w.heap.size 0 L.length (barr L) hne hle _ (by simp) (by simp [hsz1]; omega) hbox hcs
  have cV := values_in Fence.wide 7 trivial rfl (some ⟨w.heap.size, 0, none⟩) (barr L).length L.length W1
  have hks : sortZ (barr L) = sgRef := by rw [← hL]; exact sort_sg
  rw [hks] at cS
  rw [barr_len] at cS cV
  rw [hsz1] at cS cV
  have HL := Lib.hid hL; have HW1 := Lib.hid hW1
  have CS := Lib.hid cS; have CV := Lib.hid cV
  clear hne hle hbox hcs cS cV hks hW1
  rw [HL.out]
  clear hL
  refine callsIn_of_wp Tryd.func16 rfl trivial ?_ rfl
  simp only [Tryd.ntmps16, List.size_toArray, List.length_cons, List.length_nil, Nat.reduceAdd, Nat.reduceSub, Array.replicate_succ, Array.replicate_zero, List.push_toArray, List.append_toArray, List.nil_append, List.cons_append]
  gi_wp2_with fail
  refine ⟨trivial, (callsIn_wide.2 (fields_any _ sgL w (by decide +kernel) (ascii_of _ (by decide +kernel)) (by decide +kernel) Ht.out)).mono ?_⟩
  rintro e w1 ⟨rfl, rfl⟩
  rw [HL.out, HW1.out]
  gi_wp2_with fail
  refine ⟨trivial, CV.out.mono ?_⟩
  rintro e w1 ⟨rfl, rfl⟩
  gi_wp2_with fail
  refine ⟨trivial, CS.out.mono ?_⟩
  rintro e w2 ⟨v, rfl, hrow, hB⟩
  gi_wp2
  go_ret
  exact ⟨v, rfl, ownsRow_mono (by simp [hsz1]; omega) hrow, (hbe1.alloc (by omega) _).trans (hB.mono (by simp [hsz1]; omega))⟩
set_option maxRecDepth 100000 in
theorem refKeywords_any (w : World) :
    Calls Tryd.prog 15 #[] w fun e w' => e = .returned (.slice (some ⟨w.heap.size, 0, none⟩) 57 57) ∧ w' = w.alloc (.cells (kwRB.map Value.string).toArray 9) := by
  go_enter Tryd.func15, Tryd.ntmps15
  go_wp2_with fail
  refine (keywords_any w).mono ?_
  rintro e w1 ⟨rfl, rfl⟩
  go_wp2
  go_ret
  exact ⟨rfl, rfl⟩
end Go.Proofs.YtokdoklkaojheaaDoor

namespace Go.Proofs.YtokdoklkaojheaaDoor
open Go.RowKit Go.Shelf Go.Sort

theorem refTokens_any (s : ByteArray) (w : World) (hs : s.size ≤ Go.maxLen) :
    Calls Tryd.prog 9 #[.string s] w fun e w' => ∃ v off err, e = .returned (.tuple #[v, .int .i64 off, .int .i64 err]) ∧ RefOut s w.heap.size w' v off err ∧ Below w.heap.size w w' := by
  by_cases h : 65536 < s.size
  · refine (refTokens_long s w hs h).mono ?_
    rintro e w' ⟨rfl, hb⟩
    refine ⟨_, _, _, rfl, ?_, hb⟩
    unfold RefOut; rw [if_pos h]; exact ⟨rfl, rfl, rfl⟩
  · exact refTokens_in s w (by omega)

set_option maxHeartbeats 2000000 in
set_option maxRecDepth 100000 in
theorem sameTokens_zero (a1 a2 : Option Addr) (c1 c2 : Nat) (w : World) :
    Calls Tryd.prog 11 #[.slice a1 0 c1, .slice a2 0 c2] w fun r w' => r = .returned (.bool true) ∧ ∃ q, w' = w.drewN q := by
  go_enter Tryd.func11, Tryd.ntmps11
  go_wp2
  go_loopw [5] (fun i wr => i = .int .i64 0 ∧ wr = w) (fun _ _ => 0)
  case atStart => exact ⟨rfl, rfl⟩
  case round =>
    obtain ⟨rfl, rfl⟩ := hrel
    go_wp2
    go_ret
    exact ⟨rfl, 0, rfl⟩

theorem outs_agree (s : ByteArray) (B B' : Nat) (W W' : World) (v v' : Value) (off off' err err' : Int) (h : RefOut s B W v off err) (h' : TokOut s B' W' v' off' err') :
    off' = off ∧ err' = err ∧ ((v = .slice none 0 0 ∧ v' = .slice none 0 0) ∨ (W.ownsRow B 61 3 v (toks s).length (rowL (toks s)) ∧ W'.ownsRow B' 59 3 v' (toks s).length (rowL (toks s)) ∧ (v' = .slice none 0 0 ↔ toks s = []) ∧ (toks s).length ≤ 20000)) := by
  unfold RefOut at h; unfold TokOut at h'
  by_cases h1 : 65536 < s.size
  · rw [if_pos h1] at h h'
    obtain ⟨rfl, rfl, rfl⟩ := h; obtain ⟨rfl, rfl, rfl⟩ := h'
    exact ⟨rfl, rfl, .inl ⟨rfl, rfl⟩⟩
  · rw [if_neg h1] at h h'
    cases hf : (toks s).find? badTok with
    | some x =>
      rw [hf] at h h'
      obtain ⟨rfl, rfl, rfl⟩ := h; obtain ⟨rfl, rfl, rfl⟩ := h'
      exact ⟨rfl, rfl, .inl ⟨rfl, rfl⟩⟩
    | none =>
      rw [hf] at h h'
      simp only at h h'
      by_cases h2 : 20000 < (toks s).length
      · rw [if_pos h2] at h h'
        obtain ⟨rfl, ⟨x, hx, rfl⟩, rfl⟩ := h; obtain ⟨rfl, ⟨y, hy, rfl⟩, rfl⟩ := h'
        obtain rfl : x = y := Option.some.inj (hx.symm.trans hy)
        exact ⟨rfl, rfl, .inl ⟨rfl, rfl⟩⟩
      · rw [if_neg h2] at h h'
        obtain ⟨h, rfl, rfl⟩ := h; obtain ⟨g1, g2, rfl, rfl⟩ := h'
        exact ⟨rfl, rfl, .inr ⟨h, g1, g2, by omega⟩⟩
def Pair (v3 v : Value) (w : World) : Prop :=
  (∃ a1 a2 c1 c2, v3 = .slice a1 0 c1 ∧ v = .slice a2 0 c2) ∨
  ∃ b1 b2 c1 c2 n vs, n ≤ 1000000 ∧ v3 = .slice (some ⟨b1, 0, none⟩) n c1 ∧ v = .slice (some ⟨b2, 0, none⟩) n c2 ∧ toksAt w b1 n vs ∧ toksAt w b2 n vs

theorem pair_same (v3 v : Value) (w : World) (h : Pair v3 v w) : Calls Tryd.prog 11 #[v3, v] w fun r w' => r = .returned (.bool true) ∧ ∃ q, w' = w.drewN q := by
  rcases h with ⟨a1, a2, c1, c2, rfl, rfl⟩ | ⟨b1, b2, c1, c2, n, vs, hn, rfl, rfl, h1, h2⟩
  · exact sameTokens_zero a1 a2 c1 c2 w
  · exact sameTokens_eq b1 b2 vs n c1 c2 w hn h1 h2

theorem row_cell {W : World} {B : Nat} {e : TypeId} {size g cap k n : Nat} {xs : List Value} (h : W.ownsRow B e size (.slice (some ⟨g, 0, none⟩) k cap) n xs) (i : Nat) (u : Value) (hu : xs[i]? = some u) : W.cell? ⟨g, i, none⟩ = some u := by
  have := h.cells (g := g) rfl i u hu
  have e : (⟨g, 0, none⟩ : Addr).add i = ⟨g, i, none⟩ := by
    by_cases h0 : i = 0
    · subst h0; simp [Addr.add]
    · simp [Addr.add, h0]
  rw [e] at this
  exact this

theorem row_items {W : World} {B : Nat} {e : TypeId} {g cap : Nat} {xs : List Item} (h : W.ownsRow B e 3 (.slice (some ⟨g, 0, none⟩) xs.length cap) xs.length (rowL xs)) : itemsAt W g xs := by
  intro i x hx
  obtain ⟨r1, r2, r3⟩ := rowL_at xs i x hx
  exact ⟨row_cell h _ _ r1, row_cell h _ _ r2, row_cell h _ _ r3⟩

def itemV (xs : List Item) (i : Nat) : Int × ByteArray × Int := match xs[i]? with | some x => (x.kind, x.text, x.start) | none => (0, ⟨#[]⟩, 0)
theorem items_toks {W : World} {g : Nat} {xs : List Item} (h : itemsAt W g xs) : toksAt W g xs.length (itemV xs) := by
  intro i hi
  have := h i xs[i] (List.getElem?_eq_getElem hi)
  unfold itemV
  rw [List.getElem?_eq_getElem hi]
  exact this

theorem ours_pair (W : World) (B B' : Nat) (v v' : Value) (xs : List Item)
    (h : (v = .slice none 0 0 ∧ v' = .slice none 0 0) ∨ (W.ownsRow B 61 3 v xs.length (rowL xs) ∧ W.ownsRow B' 59 3 v' xs.length (rowL xs) ∧ (v' = .slice none 0 0 ↔ xs = []) ∧ xs.length ≤ 20000)) :
    Calls Tryd.prog 12 #[v'] W fun e w' => ∃ v3, e = .returned v3 ∧ Pair v3 v w' ∧ Below W.heap.size W w' := by
  rcases h with ⟨rfl, rfl⟩ | ⟨h1, h2, h3, h4⟩
  · refine (ours_nil W).mono ?_
    rintro e w' ⟨rfl, hb⟩
    exact ⟨_, rfl, .inl ⟨_, _, _, _, rfl, rfl⟩, hb⟩
  · rcases Nat.eq_zero_or_pos xs.length with h0 | h0
    · obtain rfl : xs = [] := List.eq_nil_of_length_eq_zero h0
      obtain rfl := h3.2 rfl
      refine (ours_nil W).mono ?_
      rintro e w' ⟨rfl, hb⟩
      refine ⟨_, rfl, .inl ?_, hb⟩
      rcases h1.2 with ⟨rfl, _⟩ | ⟨g, cap, cur, rfl, _⟩
      · exact ⟨_, _, _, _, rfl, rfl⟩
      · exact ⟨_, _, _, _, rfl, rfl⟩
    · obtain ⟨n, hn⟩ : ∃ n, xs.length = n + 1 := ⟨xs.length - 1, by omega⟩
      obtain ⟨g, cap, rfl⟩ : ∃ g cap, v = .slice (some ⟨g, 0, none⟩) xs.length cap := by
        rw [hn] at h1 ⊢; exact ownsRow_succ h1
      obtain ⟨g', cap', rfl⟩ : ∃ g cap, v' = .slice (some ⟨g, 0, none⟩) xs.length cap := by
        rw [hn] at h2 ⊢; exact ownsRow_succ h2
      have i1 := row_items h1
      have i2 := row_items h2
      have hg' : g' < W.heap.size := World.block_lt_of_cell? _ _ (i2 0 xs[0] (List.getElem?_eq_getElem h0)).1
      have hg : g < W.heap.size := World.block_lt_of_cell? _ _ (i1 0 xs[0] (List.getElem?_eq_getElem h0)).1
      refine (ours_any g' xs.length cap' xs W rfl (by omega) hg' i2).mono ?_
      rintro e w' ⟨v3, rfl, hr, hb⟩
      obtain ⟨g3, cap3, rfl⟩ : ∃ g cap, v3 = .slice (some ⟨g, 0, none⟩) xs.length cap := by
        rw [hn] at hr ⊢; exact ownsRow_succ hr
      refine ⟨_, rfl, .inr ⟨g3, g, cap3, cap, xs.length, itemV xs, by omega, rfl, rfl, items_toks (row_items hr), ?_⟩, hb⟩
      refine items_toks fun i x hx => ?_
      obtain ⟨r1, r2, r3⟩ := i1 i x hx
      exact ⟨(hb.cell (p := ⟨g, i * 3, none⟩) hg).trans r1, (hb.cell (p := ⟨g, i * 3 + 1, none⟩) hg).trans r2, (hb.cell (p := ⟨g, i * 3 + 2, none⟩) hg).trans r3⟩

theorem row_strs {W : World} {B : Nat} {g cap : Nat} {L : List (List UInt8)} (h : W.ownsRow B 9 1 (.slice (some ⟨g, 0, none⟩) L.length cap) L.length (L.map encStr)) : strsAt W g (L.map fun l => ⟨l.toArray⟩) := by
  intro i hi
  have hi' : i < L.length := by simpa using hi
  exact row_cell h i _ (by simp [hi', List.getD])
end Go.Proofs.YtokdoklkaojheaaDoor

namespace Go.Proofs.YtokdoklkaojheaaDoor
open Go.RowKit Go.Shelf Go.Sort

theorem Max.below {W W' : World} {m : Int} (h : W.cell? ⟨2, 0, none⟩ = some (.int .i64 m)) (hb : Below W.heap.size W W') : W'.cell? ⟨2, 0, none⟩ = some (.int .i64 m) :=
  (hb.cell (p := ⟨2, 0, none⟩) (World.block_lt_of_cell? _ _ h)).trans h

theorem keywords_row (w : World) (ht : Tab w) :
    Calls Tryd.prog 14 #[] w fun e w' => ∃ g cap, e = .returned (.slice (some ⟨g, 0, none⟩) 57 cap) ∧ strsAt w' g kwRB ∧ g < w'.heap.size ∧ Below w.heap.size w w' := by
  refine (callsIn_wide.1 (keywords_in w ht)).mono ?_
  rintro e w' ⟨v, rfl, hr, hb⟩
  have hl : kwRef.length = 57 := by decide +kernel
  have hl2 : kwL.length = 57 := by decide +kernel
  rw [hl2] at hr
  obtain ⟨g, cap, rfl⟩ := ownsRow_succ (k := 56) hr
  have hst : strsAt w' g kwRB := row_strs (L := kwRef) (by rw [hl]; exact hr)
  refine ⟨g, cap, rfl, hst, ?_, hb⟩
  exact World.block_lt_of_cell? _ _ (hst 0 (by show 0 < (kwRef.map _).length; rw [List.length_map, hl]; omega))

theorem signs_row (w : World) (ht : Tab w) :
    Calls Tryd.prog 16 #[] w fun e w' => ∃ g cap, e = .returned (.slice (some ⟨g, 0, none⟩) 39 cap) ∧ strsAt w' g sgRB ∧ g < w'.heap.size ∧ Below w.heap.size w w' := by
  refine (callsIn_wide.1 (signs_in w ht)).mono ?_
  rintro e w' ⟨v, rfl, hr, hb⟩
  have hl : sgRef.length = 39 := by decide +kernel
  have hl2 : sgL.length = 39 := by decide +kernel
  rw [hl2] at hr
  obtain ⟨g, cap, rfl⟩ := ownsRow_succ (k := 38) hr
  have hst : strsAt w' g sgRB := row_strs (L := sgRef) (by rw [hl]; exact hr)
  refine ⟨g, cap, rfl, hst, ?_, hb⟩
  exact World.block_lt_of_cell? _ _ (hst 0 (by show 0 < (sgRef.map _).length; rw [List.length_map, hl]; omega))

theorem agree_below {A B : World} {v v' : Value} {b1 b2 n : Nat} {L1 L2 : List Value} {p q : Prop} (h : (v = .slice none 0 0 ∧ v' = .slice none 0 0) ∨ (A.ownsRow b1 61 3 v n L1 ∧ B.ownsRow b2 59 3 v' n L2 ∧ p ∧ q)) (hb : Below A.heap.size A B) :
    (v = .slice none 0 0 ∧ v' = .slice none 0 0) ∨ (B.ownsRow b1 61 3 v n L1 ∧ B.ownsRow b2 59 3 v' n L2 ∧ p ∧ q) := by
  rcases h with h | ⟨h1, h2⟩
  · exact .inl h
  · exact .inr ⟨ownsRow_below h1 hb, h2⟩

theorem strsAt_below {W W' : World} {g : Nat} {zs : List ByteArray} (h : strsAt W g zs) (hg : g < W.heap.size) (hb : Below W.heap.size W W') : strsAt W' g zs :=
  fun i hi => (hb.cell (p := ⟨g, i, none⟩) hg).trans (h i hi)

set_option maxHeartbeats 8000000 in
set_option maxRecDepth 100000 in
theorem law_tokens (s : ByteArray) (m : Int) (w : World) (hs : s.size ≤ Go.maxLen) (ht : Tab w) (hm : w.cell? ⟨2, 0, none⟩ = some (.int .i64 m)) :
    Calls Tryd.prog 3 #[.string s] w fun e w' => e = .returned (.bool true) ∧ Below w.heap.size w w' := by
  have hs0 := hs
  unfold Go.maxLen at hs
  have Ht := Lib.hid ht; have Hm := Lib.hid hm; have Hs := Lib.hid hs0
  clear ht hm hs0
  by_cases h1 : 4000 < s.size
  · have d1 : decide ((4000 : Int) < s.size) = true := decide_eq_true (by omega)
    have d1' : decide (4000 < s.size) = true := decide_eq_true h1
    by_cases h2 : s.size = 65537
    · have d2 : ((s.size : Int) != 65537) = false := by simp; omega
      clear h1
      go_enter Tryd.func3, Tryd.ntmps3
      go_wp2_with fail
      refine (refTokens_any s w Hs.out).mono ?_; rintro e w1 ⟨v, off, err, rfl, href, hb1⟩
      have Hb1 := Lib.hid hb1; have Href := Lib.hid href; clear hb1 href
      go_wp2_with fail
      refine (tokens_any s m w1 (Ht.out.below Hb1.out) (Max.below Hm.out Hb1.out)).mono ?_; rintro e w2 ⟨v', off', err', rfl, htok, hb2⟩
      obtain ⟨rfl, rfl, hag⟩ := outs_agree s _ _ _ _ _ _ _ _ _ _ Href.out htok
      have Hb2 := Lib.hid hb2; have Hag := Lib.hid hag; clear hb2 hag htok
      go_wp2_with fail
      have hag2 := agree_below Hag.out Hb2.out
      refine (ours_pair w2 _ _ v v' (toks s) hag2).mono ?_; rintro e w3 ⟨v3, rfl, hpair, hb3⟩
      have hB3 := (Hb1.out.trans (Hb2.out.mono Hb1.out.size)).trans (hb3.mono (Nat.le_trans Hb1.out.size Hb2.out.size))
      have HP := Lib.hid hpair; have HB3 := Lib.hid hB3; clear hpair hB3 hb3 hag2
      go_wp2_with fail
      refine (pair_same v3 v w3 HP.out).mono ?_; rintro e w4 ⟨rfl, q, rfl⟩
      have HB4 := Lib.hid (below_drewN HB3.out q)
      go_wp2_with fail
      refine (keywords_row _ (Ht.out.below HB4.out)).mono ?_; rintro e w5 ⟨g5, c5, rfl, hs5, hg5, hb5⟩
      have HB5 := Lib.hid (HB4.out.trans (hb5.mono HB4.out.size))
      have hn5 := strs_new w5 kwRB 9
      have Hs5 := Lib.hid hs5; have Hn5 := Lib.hid hn5; have HG5 := Lib.hid hg5; clear hs5 hn5 hg5 hb5
      go_wp2_with fail
      refine (refKeywords_any w5).mono ?_; rintro e w6 ⟨rfl, rfl⟩
      have HB6 := Lib.hid (HB5.out.alloc HB5.out.size (.cells (kwRB.map Value.string).toArray 9))
      have Hs6 := Lib.hid (strsAt_below Hs5.out HG5.out ((Below.refl _ w5).alloc (Nat.le_refl _) (.cells (kwRB.map Value.string).toArray 9)))
      obtain ⟨W6, hW6⟩ : ∃ W6, w5.alloc (.cells (kwRB.map Value.string).toArray 9) = W6 := ⟨_, rfl⟩
      rw [hW6] at HB6 Hs6 Hn5 ⊢
      clear hW6
      go_wp2_with fail
      refine (sameStrings_eq g5 w5.heap.size kwRB 57 c5 57 W6 (by decide +kernel) (by omega) Hs6.out Hn5.out).mono ?_; rintro e w7 ⟨rfl, q7, rfl⟩
      have HB7 := Lib.hid (below_drewN HB6.out q7)
      obtain ⟨W7, hW7⟩ : ∃ W7, W6.drewN q7 = W7 := ⟨_, rfl⟩
      rw [hW7] at HB7 ⊢
      clear hW7
      go_wp2_with fail
      refine (signs_row _ (Ht.out.below HB7.out)).mono ?_; rintro e w8 ⟨g8, c8, rfl, hs8, hg8, hb8⟩
      have HB8 := Lib.hid (HB7.out.trans (hb8.mono HB7.out.size))
      have hn8 := strs_new w8 sgRB 9
      have Hs8 := Lib.hid hs8; have Hn8 := Lib.hid hn8; have HG8 := Lib.hid hg8; clear hs8 hn8 hg8 hb8
      go_wp2_with fail
      refine (refSigns_any w8).mono ?_; rintro e w9 ⟨rfl, rfl⟩
      have HB9 := Lib.hid (HB8.out.alloc HB8.out.size (.cells (sgRB.map Value.string).toArray 9))
      have Hs9 := Lib.hid (strsAt_below Hs8.out HG8.out ((Below.refl _ w8).alloc (Nat.le_refl _) (.cells (sgRB.map Value.string).toArray 9)))
      obtain ⟨W9, hW9⟩ : ∃ W9, w8.alloc (.cells (sgRB.map Value.string).toArray 9) = W9 := ⟨_, rfl⟩
      rw [hW9] at HB9 Hs9 Hn8 ⊢
      clear hW9
      go_wp2_with fail
      refine (sameStrings_eq g8 w8.heap.size sgRB 39 c8 39 W9 (by decide +kernel) (by omega) Hs9.out Hn8.out).mono ?_; rintro e w10 ⟨rfl, q10, rfl⟩
      have HB10 := Lib.hid (below_drewN HB9.out q10)
      obtain ⟨W10, hW10⟩ : ∃ W10, W9.drewN q10 = W10 := ⟨_, rfl⟩
      rw [hW10] at HB10 ⊢
      clear hW10
      go_wp2_with fail
      refine (awake_any m _ (Ht.out.below HB10.out) (Max.below Hm.out HB10.out)).mono ?_; rintro e w11 ⟨rfl, hb11⟩
      have HB11 := Lib.hid (HB10.out.trans (hb11.mono HB10.out.size))
      clear hb11
      go_wp2
      go_ret
      exact ⟨rfl, HB11.out⟩
    · have d2 : ((s.size : Int) != 65537) = true := by simp; omega
      clear h1
      go_enter Tryd.func3, Tryd.ntmps3
      go_wp2_with fail
      refine (awake_any m _ Ht.out Hm.out).mono ?_; rintro e w1 ⟨rfl, hb1⟩
      have Hb1 := Lib.hid hb1; clear hb1
      go_wp2
      go_ret
      exact ⟨rfl, Hb1.out⟩
  · have d1 : decide ((4000 : Int) < s.size) = false := decide_eq_false (by omega)
    have d1' : decide (4000 < s.size) = false := decide_eq_false h1
    clear h1
    go_enter Tryd.func3, Tryd.ntmps3
    go_wp2_with fail
    refine (refTokens_any s w Hs.out).mono ?_; rintro e w1 ⟨v, off, err, rfl, href, hb1⟩
    have Hb1 := Lib.hid hb1; have Href := Lib.hid href; clear hb1 href
    go_wp2_with fail
    refine (tokens_any s m w1 (Ht.out.below Hb1.out) (Max.below Hm.out Hb1.out)).mono ?_; rintro e w2 ⟨v', off', err', rfl, htok, hb2⟩
    obtain ⟨rfl, rfl, hag⟩ := outs_agree s _ _ _ _ _ _ _ _ _ _ Href.out htok
    have Hb2 := Lib.hid hb2; have Hag := Lib.hid hag; clear hb2 hag htok
    go_wp2_with fail
    have hag2 := agree_below Hag.out Hb2.out
    refine (ours_pair w2 _ _ v v' (toks s) hag2).mono ?_; rintro e w3 ⟨v3, rfl, hpair, hb3⟩
    have hB3 := (Hb1.out.trans (Hb2.out.mono Hb1.out.size)).trans (hb3.mono (Nat.le_trans Hb1.out.size Hb2.out.size))
    have HP := Lib.hid hpair; have HB3 := Lib.hid hB3; clear hpair hB3 hb3 hag2
    go_wp2_with fail
    refine (pair_same v3 v w3 HP.out).mono ?_; rintro e w4 ⟨rfl, q, rfl⟩
    have HB4 := Lib.hid (below_drewN HB3.out q)
    go_wp2_with fail
    refine (keywords_row _ (Ht.out.below HB4.out)).mono ?_; rintro e w5 ⟨g5, c5, rfl, hs5, hg5, hb5⟩
    have HB5 := Lib.hid (HB4.out.trans (hb5.mono HB4.out.size))
    have hn5 := strs_new w5 kwRB 9
    have Hs5 := Lib.hid hs5; have Hn5 := Lib.hid hn5; have HG5 := Lib.hid hg5; clear hs5 hn5 hg5 hb5
    go_wp2_with fail
    refine (refKeywords_any w5).mono ?_; rintro e w6 ⟨rfl, rfl⟩
    have HB6 := Lib.hid (HB5.out.alloc HB5.out.size (.cells (kwRB.map Value.string).toArray 9))
    have Hs6 := Lib.hid (strsAt_below Hs5.out HG5.out ((Below.refl _ w5).alloc (Nat.le_refl _) (.cells (kwRB.map Value.string).toArray 9)))
    obtain ⟨W6, hW6⟩ : ∃ W6, w5.alloc (.cells (kwRB.map Value.string).toArray 9) = W6 := ⟨_, rfl⟩
    rw [hW6] at HB6 Hs6 Hn5 ⊢
    clear hW6
    go_wp2_with fail
    refine (sameStrings_eq g5 w5.heap.size kwRB 57 c5 57 W6 (by decide +kernel) (by omega) Hs6.out Hn5.out).mono ?_; rintro e w7 ⟨rfl, q7, rfl⟩
    have HB7 := Lib.hid (below_drewN HB6.out q7)
    obtain ⟨W7, hW7⟩ : ∃ W7, W6.drewN q7 = W7 := ⟨_, rfl⟩
    rw [hW7] at HB7 ⊢
    clear hW7
    go_wp2_with fail
    refine (signs_row _ (Ht.out.below HB7.out)).mono ?_; rintro e w8 ⟨g8, c8, rfl, hs8, hg8, hb8⟩
    have HB8 := Lib.hid (HB7.out.trans (hb8.mono HB7.out.size))
    have hn8 := strs_new w8 sgRB 9
    have Hs8 := Lib.hid hs8; have Hn8 := Lib.hid hn8; have HG8 := Lib.hid hg8; clear hs8 hn8 hg8 hb8
    go_wp2_with fail
    refine (refSigns_any w8).mono ?_; rintro e w9 ⟨rfl, rfl⟩
    have HB9 := Lib.hid (HB8.out.alloc HB8.out.size (.cells (sgRB.map Value.string).toArray 9))
    have Hs9 := Lib.hid (strsAt_below Hs8.out HG8.out ((Below.refl _ w8).alloc (Nat.le_refl _) (.cells (sgRB.map Value.string).toArray 9)))
    obtain ⟨W9, hW9⟩ : ∃ W9, w8.alloc (.cells (sgRB.map Value.string).toArray 9) = W9 := ⟨_, rfl⟩
    rw [hW9] at HB9 Hs9 Hn8 ⊢
    clear hW9
    go_wp2_with fail
    refine (sameStrings_eq g8 w8.heap.size sgRB 39 c8 39 W9 (by decide +kernel) (by omega) Hs9.out Hn8.out).mono ?_; rintro e w10 ⟨rfl, q10, rfl⟩
    have HB10 := Lib.hid (below_drewN HB9.out q10)
    obtain ⟨W10, hW10⟩ : ∃ W10, W9.drewN q10 = W10 := ⟨_, rfl⟩
    rw [hW10] at HB10 ⊢
    clear hW10
    go_wp2_with fail
    refine (awake_any m _ (Ht.out.below HB10.out) (Max.below Hm.out HB10.out)).mono ?_; rintro e w11 ⟨rfl, hb11⟩
    have HB11 := Lib.hid (HB10.out.trans (hb11.mono HB10.out.size))
    clear hb11
    go_wp2
    go_ret
    exact ⟨rfl, HB11.out⟩
end Go.Proofs.YtokdoklkaojheaaDoor

namespace Go.Proofs.YtokdoklkaojheaaDoor
open Go.ChangeShapes Go.WideShapes Go.ChangeAt Go.WideMaps Go.WideElems Go.RowKit
open Go.ChangeMaps (open_string)

set_option maxRecDepth 100000 in
theorem lexTokens_lifted (os : Os) (started : os.Started) (H : Type) (enc : TypeId × Value → H) :
    ReturnsInHanded {} Tryd.checked os 3 .any (fun w args => (Rows.lexTokensSpec.pre enc Tryd.prog Tryd.f3 [] false w args ∧ laidMetH Tryd.prog laidL w) ∧ sizedMet enc Tryd.prog Tryd.f3 (OpenSpec.ofChange Rows.lexTokensSpec) false w args)
      (Rows.lexTokensSpec.post enc Tryd.prog Tryd.f3 false true false false) := by
  refine returnsInHanded_of_calls (C := Tryd.checked) own started (by kernel_rfl)
    (ChangeSpec.witness_shaped (enc := enc) (C := Tryd.checked) (os := os) (fn := Tryd.f3) (X := fun w _ => laidMetH Tryd.prog laidL w) false (World.doorLaid Tryd.prog 400 os) #[.string ⟨#[]⟩] 8 rfl (World.shaped_of_RefB (by kernel_rfl) (by kernel_rfl)) (by kernel_rfl) (by kernel_rfl) (by kernel_rfl) (door_met os _)) ?_
  intro w tape i _ hsh _ hok hpre _
  obtain ⟨_, _, _, fn', hfn', _, _, _, _, hval0⟩ := hok
  obtain rfl : fn' = Tryd.f3 := Option.some.inj (hfn'.symm.trans Tryd.func3)
  obtain ⟨⟨⟨ds, gs, before, hw, _⟩, hL0⟩, _⟩ := hpre
  have hW' := DataW.Whole.of_heap (w' := w.forCall tape i) (by rfl) hw
  have hL : laidMetH Tryd.prog laidL (w.forCall tape i) := hL0.of_heap (by rfl)
  obtain ⟨args, hargs⟩ : ∃ args, i.args = args := ⟨_, rfl⟩
  obtain ⟨W, hWW⟩ : ∃ W, w.forCall tape i = W := ⟨_, rfl⟩
  rw [hargs] at hW' hval0 ⊢
  rw [hWW] at hW' hval0 hL hsh ⊢
  clear hw hL0 hWW hargs
  have ht := tab_of_laid hL
  obtain ⟨m, hm⟩ := max_of_shape hsh
  clear hL hsh
  have hval : ∀ (j : Nat) t v, Tryd.f3.params[j]? = some t → args[j]? = some v → Value.okWide Tryd.prog W .any w.heap.size t v := hval0
  have hW := hW'
  obtain ⟨p, q, hA0, hV, rfl, _, _⟩ := hW
  have hA : DataW.TrodAll enc Tryd.prog W 0 (fun _ => true) true Tryd.f3.params.toList args.toList ds p := hA0
  rw [Tryd.params3] at hA hval
  obtain ⟨v0, d0, rfl, rfl, h0⟩ := trodAll_one hA
  obtain ⟨rfl, rfl⟩ := trodVars_none hV
  clear hA0 hval0
  simp only [List.append_nil] at hW'
  have hlt : ∀ x ∈ p, x.block < W.heap.size := fun x hx => by simpa using hW'.lt x hx
  have k0 := h0
  obtain ⟨s, rfl, e0, _, hs⟩ := open_string Tryd.underlying9 (hval 0 9 v0 rfl rfl) k0
  refine (law_tokens s m W hs ht hm).mono fun e W' ⟨he, hb⟩ => ?_
  subst he
  have g0 := Below.trod laidOut (by kernel_rfl) (of_decide_eq_true (by kernel_rfl)) h0 hb hlt
  have hp : Rows.lexTokensSpec.post enc Tryd.prog Tryd.f3 false true false false W #[.string s] (.bool true) W' :=
    ⟨_, _, _, [], _, [], hW', trodAll_mk1 (shut_bool Tryd.underlying4 _), trodAll_mk1 g0, rfl, hb.frame _, fun h => by cases h⟩
  exact ChangeSpec.post_blind hp

theorem lexTokens_holds : Rows.LexTokensSaid :=
  OpenClaim.holds_of_wide 3 Tryd.f3 rfl rfl rfl rfl rfl rfl rfl ⟨rfl, rfl, rfl, rfl, rfl⟩ rfl rfl rfl rfl rfl (by kernel_rfl) Tryd.func3 (by kernel_rfl)
    (of_decide_eq_true (by kernel_rfl)) (by unfold Func.isWrapper; first | (rw [if_pos (by decide +kernel)]; kernel_rfl) | (rw [if_neg (by decide +kernel)]; exact ⟨rfl, rfl⟩))
    (fun os started H enc _ => lexTokens_lifted os started H enc)

/-- LexTokens: whatever the input, the law returns true; the listed variables are tied to the program's text. -/
theorem lexTokens_card : Rows.LexTokensCardSaid :=
  Claim7.holds_tied_plain_at .later [] [.listed, .data] true (true, "4b6ac7f4204d840c3deb2d329c5c600e273d2448acafc67f7f384ac8ed2bc502") false
    lexTokens_holds (fun _ h => by cases h) (by kernel_rfl) (fun _ h => by cases h) lexTokens_row_tie rfl ⟨rfl, rfl⟩ (by kernel_rfl) rfl
    (fun f fn hf hfn => by
      obtain rfl : f = 3 := Option.some.inj ((show Tryd.prog.funcNamed "entail/entaillaw03.LexTokens" = some 3 by kernel_rfl).symm.trans hf) |>.symm
      obtain rfl : fn = Tryd.f3 := (Option.some.inj (Tryd.func3.symm.trans hfn)).symm
      exact ⟨by kernel_rfl, fun j t ht => by
        rw [Tryd.params3] at ht
        match j, ht with
        | 0, ht => obtain rfl : t = 9 := by simpa using ht.symm
                   exact (show Tryd.prog.wantsStandIn 9 = false by kernel_rfl)
        | j + 1, ht => simp at ht⟩)
    (by kernel_rfl)
#print axioms lexTokens_card
end Go.Proofs.YtokdoklkaojheaaDoor

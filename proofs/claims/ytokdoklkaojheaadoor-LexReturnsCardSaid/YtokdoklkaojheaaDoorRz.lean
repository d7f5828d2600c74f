/-
  WHAT IS PROVED: the law LexReturns returns true at every list of tokens, and leaves its argument as it was. CONDITIONS: none of its own; the two listed variables hold what the program's text lays in them (the given tie).
-/
import Derived.Shelf.Strings.BuilderK
import Derived.Test.YtokdoklkaojheaaDoorProg
import Derived.Test.YtokdoklkaojheaaDoorWb
import Derived.Test.YtokdoklkaojheaaDoorWx
import Derived.Test.YtokdoklkaojheaaDoorZu
import Derived.Laws.MakeOwn
import Derived.Deep.Slices
import Derived.ChangeSame
import Derived.Test.YtokdoklkaojheaaDoorWv
import Derived.Test.YtokdoklkaojheaaDoorXa
import Derived.Test.YtokdoklkaojheaaDoorTie
import Derived.Test.YtokdoklkaojheaaDoorCards
import Derived.SevenTiedAt
namespace Go.Proofs
open Go.Shelf
def Tryd.lays170_ren : Go.Shelf.Ren := ⟨fun | 240 => 95 | 276 => 113 | 167 => 62 | 166 => 63 | 169 => 65 | 170 => 64 | n => n, fun | 0 => 0 | 3 => 3 | 4 => 4 | 5 => 5 | 9 => 9 | 20 => 20 | 37 => 105 | 70 => 104 | 72 => 107 | 75 => 111 | 80 => 116 | 127 => 130 | 164 => 143 | n => n, fun | n => n⟩
theorem Tryd.lays170 : Go.Proofs.Lays.n170 Tryd.prog Tryd.lays170_ren := {
  mixed := by kernel_rfl
  f170 := Tryd.func64.trans (congrArg some (by kernel_rfl))
  t0 := Tryd.underlying0
  a0 := Tryd.isAgg0
  z0 := Tryd.sizeOf0
  v0 := Tryd.zeroValue0
  t3 := Tryd.underlying3
  a3 := Tryd.isAgg3
  z3 := Tryd.sizeOf3
  v3 := Tryd.zeroValue3
  t37 := Tryd.underlying105
  a37 := Tryd.isAgg105
  z37 := Tryd.sizeOf105
  v37 := Tryd.zeroValue105
  t70 := Tryd.underlying104
  a70 := Tryd.isAgg104
  z70 := Tryd.sizeOf104
  v70 := Tryd.zeroValue104
  t72 := Tryd.underlying107
  a72 := Tryd.isAgg107
  z72 := Tryd.sizeOf107
  v72 := Tryd.zeroValue107 }
def Tryd.lays167_ren : Go.Shelf.Ren := ⟨fun | 240 => 95 | 276 => 113 | 167 => 62 | 166 => 63 | 169 => 65 | 170 => 64 | n => n, fun | 0 => 0 | 3 => 3 | 4 => 4 | 5 => 5 | 9 => 9 | 20 => 20 | 37 => 105 | 70 => 104 | 72 => 107 | 75 => 111 | 80 => 116 | 127 => 130 | 164 => 143 | n => n, fun | n => n⟩
theorem Tryd.lays167 : Go.Proofs.Lays.n167 Tryd.prog Tryd.lays167_ren := {
  mixed := by kernel_rfl
  f167 := Tryd.func62.trans (congrArg some (by kernel_rfl))
  f240 := Tryd.func95.trans (congrArg some (by kernel_rfl))
  f276 := Tryd.func113.trans (congrArg some (by kernel_rfl))
  t0 := Tryd.underlying0
  a0 := Tryd.isAgg0
  z0 := Tryd.sizeOf0
  v0 := Tryd.zeroValue0
  t4 := Tryd.underlying4
  a4 := Tryd.isAgg4
  z4 := Tryd.sizeOf4
  v4 := Tryd.zeroValue4
  t5 := Tryd.underlying5
  a5 := Tryd.isAgg5
  z5 := Tryd.sizeOf5
  v5 := Tryd.zeroValue5
  t9 := Tryd.underlying9
  a9 := Tryd.isAgg9
  z9 := Tryd.sizeOf9
  v9 := Tryd.zeroValue9
  t20 := Tryd.underlying20
  a20 := Tryd.isAgg20
  z20 := Tryd.sizeOf20
  v20 := Tryd.zeroValue20
  t37 := Tryd.underlying105
  a37 := Tryd.isAgg105
  z37 := Tryd.sizeOf105
  v37 := Tryd.zeroValue105
  t70 := Tryd.underlying104
  a70 := Tryd.isAgg104
  z70 := Tryd.sizeOf104
  v70 := Tryd.zeroValue104
  t72 := Tryd.underlying107
  a72 := Tryd.isAgg107
  z72 := Tryd.sizeOf107
  v72 := Tryd.zeroValue107
  t75 := Tryd.underlying111
  a75 := Tryd.isAgg111
  z75 := Tryd.sizeOf111
  v75 := Tryd.zeroValue111
  t164 := Tryd.underlying143
  a164 := Tryd.isAgg143
  z164 := Tryd.sizeOf143
  v164 := Tryd.zeroValue143 }
def Tryd.lays166_ren : Go.Shelf.Ren := ⟨fun | 240 => 95 | 276 => 113 | 167 => 62 | 166 => 63 | 169 => 65 | 170 => 64 | n => n, fun | 0 => 0 | 3 => 3 | 4 => 4 | 5 => 5 | 9 => 9 | 20 => 20 | 37 => 105 | 70 => 104 | 72 => 107 | 75 => 111 | 80 => 116 | 127 => 130 | 164 => 143 | n => n, fun | n => n⟩
theorem Tryd.lays166 : Go.Proofs.Lays.n166 Tryd.prog Tryd.lays166_ren := {
  mixed := by kernel_rfl
  f166 := Tryd.func63.trans (congrArg some (by kernel_rfl))
  f240 := Tryd.func95.trans (congrArg some (by kernel_rfl))
  f276 := Tryd.func113.trans (congrArg some (by kernel_rfl))
  t0 := Tryd.underlying0
  a0 := Tryd.isAgg0
  z0 := Tryd.sizeOf0
  v0 := Tryd.zeroValue0
  t3 := Tryd.underlying3
  a3 := Tryd.isAgg3
  z3 := Tryd.sizeOf3
  v3 := Tryd.zeroValue3
  t4 := Tryd.underlying4
  a4 := Tryd.isAgg4
  z4 := Tryd.sizeOf4
  v4 := Tryd.zeroValue4
  t9 := Tryd.underlying9
  a9 := Tryd.isAgg9
  z9 := Tryd.sizeOf9
  v9 := Tryd.zeroValue9
  t20 := Tryd.underlying20
  a20 := Tryd.isAgg20
  z20 := Tryd.sizeOf20
  v20 := Tryd.zeroValue20
  t37 := Tryd.underlying105
  a37 := Tryd.isAgg105
  z37 := Tryd.sizeOf105
  v37 := Tryd.zeroValue105
  t70 := Tryd.underlying104
  a70 := Tryd.isAgg104
  z70 := Tryd.sizeOf104
  v70 := Tryd.zeroValue104
  t72 := Tryd.underlying107
  a72 := Tryd.isAgg107
  z72 := Tryd.sizeOf107
  v72 := Tryd.zeroValue107
  t75 := Tryd.underlying111
  a75 := Tryd.isAgg111
  z75 := Tryd.sizeOf111
  v75 := Tryd.zeroValue111
  t164 := Tryd.underlying143
  a164 := Tryd.isAgg143
  z164 := Tryd.sizeOf143
  v164 := Tryd.zeroValue143 }
def Tryd.lays169_ren : Go.Shelf.Ren := ⟨fun | 240 => 95 | 276 => 113 | 167 => 62 | 166 => 63 | 169 => 65 | 170 => 64 | n => n, fun | 0 => 0 | 3 => 3 | 4 => 4 | 5 => 5 | 9 => 9 | 20 => 20 | 37 => 105 | 70 => 104 | 72 => 107 | 75 => 111 | 80 => 116 | 127 => 130 | 164 => 143 | n => n, fun | n => n⟩
theorem Tryd.lays169 : Go.Proofs.Lays.n169 Tryd.prog Tryd.lays169_ren := {
  mixed := by kernel_rfl
  f169 := Tryd.func65.trans (congrArg some (by kernel_rfl))
  t0 := Tryd.underlying0
  a0 := Tryd.isAgg0
  z0 := Tryd.sizeOf0
  v0 := Tryd.zeroValue0
  t3 := Tryd.underlying3
  a3 := Tryd.isAgg3
  z3 := Tryd.sizeOf3
  v3 := Tryd.zeroValue3
  t9 := Tryd.underlying9
  a9 := Tryd.isAgg9
  z9 := Tryd.sizeOf9
  v9 := Tryd.zeroValue9
  t37 := Tryd.underlying105
  a37 := Tryd.isAgg105
  z37 := Tryd.sizeOf105
  v37 := Tryd.zeroValue105
  t70 := Tryd.underlying104
  a70 := Tryd.isAgg104
  z70 := Tryd.sizeOf104
  v70 := Tryd.zeroValue104
  t72 := Tryd.underlying107
  a72 := Tryd.isAgg107
  z72 := Tryd.sizeOf107
  v72 := Tryd.zeroValue107
  t127 := Tryd.underlying130
  a127 := Tryd.isAgg130
  z127 := Tryd.sizeOf130
  v127 := Tryd.zeroValue130 }
theorem Tryd.Builder_Extra_167 : Builder.Extra Tryd.prog Tryd.lays167_ren where
  sizeBuilder := by kernel_rfl
  liesBuilder := by kernel_rfl
  t5 := Tryd.underlying5
  a5 := Tryd.isAgg5
  z5 := Tryd.sizeOf5
  v5 := Tryd.zeroValue5
  infoByte := by kernel_rfl
  cellsByte := by kernel_rfl
  sizeByte := by kernel_rfl
  neB5 := by decide
theorem Tryd.Builder_Extra_166 : Builder.Extra Tryd.prog Tryd.lays166_ren where
  sizeBuilder := by kernel_rfl
  liesBuilder := by kernel_rfl
  t5 := Tryd.underlying5
  a5 := Tryd.isAgg5
  z5 := Tryd.sizeOf5
  v5 := Tryd.zeroValue5
  infoByte := by kernel_rfl
  cellsByte := by kernel_rfl
  sizeByte := by kernel_rfl
  neB5 := by decide
theorem Tryd.Builder_Extra_169 : Builder.Extra Tryd.prog Tryd.lays169_ren where
  sizeBuilder := by kernel_rfl
  liesBuilder := by kernel_rfl
  t5 := Tryd.underlying5
  a5 := Tryd.isAgg5
  z5 := Tryd.sizeOf5
  v5 := Tryd.zeroValue5
  infoByte := by kernel_rfl
  cellsByte := by kernel_rfl
  sizeByte := by kernel_rfl
  neB5 := by decide
open Go.RowKit in
theorem Tryd.Builder_Len_f (B b : Nat) (bs : List Value) (w : World) (h : Lib.IsBuilderF 107 5 B b bs w) :
    Calls Tryd.prog 64 #[.pointer (some ⟨b, 0, none⟩)] w fun e w' => e = .returned (.int .i64 bs.length) ∧ w' = w := Any.Builder_Len_f Tryd.lays170 B b bs w h
open Go.RowKit in
theorem Tryd.Builder_WriteByte_k (B b : Nat) (bs : List Value) (c : Int) (w : World) (h : Lib.IsBuilderF 107 5 B b bs w) (hlen : bs.length + 1 ≤ 140737488355328) (hBw : B ≤ w.heap.size) :
    Calls Tryd.prog 62 #[.pointer (some ⟨b, 0, none⟩), .int .u8 c] w fun e w' => e = .returned .nilIface ∧ (Lib.BuilderAtF 107 5 B b (.pointer (some ⟨b, 0, none⟩)) (bs ++ [.int .u8 c]) w' ∧ Below B w w' ∧ Lib.OthersKept 5 (some b) w w') := Any.Builder_WriteByte_k Tryd.lays167 Tryd.Builder_Extra_167 B b bs c w h hlen hBw
open Go.RowKit in
theorem Tryd.Builder_WriteString_k (B b : Nat) (bs : List Value) (s : ByteArray) (w : World) (h : Lib.IsBuilderF 107 5 B b bs w) (hlen : bs.length + s.size ≤ 140737488355328) (hBw : B ≤ w.heap.size) :
    Calls Tryd.prog 63 #[.pointer (some ⟨b, 0, none⟩), .string s] w fun e w' => e = .returned (.tuple #[.int .i64 s.size, .nilIface]) ∧ (Lib.BuilderAtF 107 5 B b (.pointer (some ⟨b, 0, none⟩)) (bs ++ Lib.strCells s) w' ∧ Below B w w' ∧ Lib.OthersKept 5 (some b) w w') := Any.Builder_WriteString_k Tryd.lays166 Tryd.Builder_Extra_166 B b bs s w h hlen hBw
open Go.RowKit in
theorem Tryd.Builder_String_any_k (B b : Nat) (l : List UInt8) (w : World) (h : Lib.IsBuilderF 107 5 B b (Lib.byteCells l) w) (hBw : B ≤ w.heap.size) :
    Calls Tryd.prog 65 #[.pointer (some ⟨b, 0, none⟩)] w fun e w' => e = .returned (.string ⟨l.toArray⟩) ∧ (Lib.IsBuilderF 107 5 B b (Lib.byteCells l) w' ∧ Below B w w' ∧ Lib.OthersKept 5 (some b) w w') := Any.Builder_String_any_k Tryd.lays169 Tryd.Builder_Extra_169 B b l w h hBw
end Go.Proofs

namespace Go.Proofs.YtokdoklkaojheaaDoor
open Go.RowKit

/-- a token, as it comes in -/
structure Tk where
  kind : Int
  text : ByteArray
  pos : Int
def tkCells (x : Tk) : List Value := [.int .i64 x.kind, .string x.text, .int .i64 x.pos]
def tkRow (xs : List Tk) : List Value := xs.flatMap tkCells
theorem tkRow_snoc (pre : List Tk) (x : Tk) : tkRow (pre ++ [x]) = tkRow pre ++ tkCells x := by simp [tkRow]
theorem tkRow_len (xs : List Tk) : (tkRow xs).length = xs.length * 3 := by
  induction xs with
  | nil => rfl
  | cons x xs ih => simp [tkRow, tkCells] at ih ⊢; omega

/-- a row of tokens is there -/
def tksAt (w : World) (b o : Nat) (xs : List Tk) : Prop :=
  ∀ (i : Nat) (x : Tk), xs[i]? = some x → w.cell? ⟨b, o + i * 3, none⟩ = some (.int .i64 x.kind) ∧ w.cell? ⟨b, o + i * 3 + 1, none⟩ = some (.string x.text) ∧ w.cell? ⟨b, o + i * 3 + 2, none⟩ = some (.int .i64 x.pos)

def longTk (x : Tk) : Bool := decide (200 < x.text.size)
def anyLong (xs : List Tk) : Bool := xs.any longTk
def shortB (xs : List Tk) : Bool := !anyLong xs && decide (xs.length ≤ 80)

theorem anyLong_step (xs : List Tk) (k : Nat) (h : k < xs.length) (e : longTk xs[k] = false) : anyLong (xs.drop k) = anyLong (xs.drop (k + 1)) := by
  rw [List.drop_eq_getElem_cons h]; simp only [anyLong, List.any_cons, e, Bool.false_or]
theorem anyLong_hit (xs : List Tk) (k : Nat) (h : k < xs.length) (e : longTk xs[k] = true) : anyLong (xs.drop k) = true := by
  rw [List.drop_eq_getElem_cons h]; simp only [anyLong, List.any_cons, e, Bool.true_or]

set_option maxHeartbeats 1000000 in
set_option maxRecDepth 100000 in
theorem short_any (b o n c : Nat) (xs : List Tk) (w : World) (hn : n = xs.length) (hm : n ≤ 9223372036854775807) (hb : b < w.heap.size) (hx : tksAt w b o xs) :
    Calls Tryd.prog 28 #[.slice (some ⟨b, o, none⟩) n c] w fun e w' => e = .returned (.bool (shortB xs)) ∧ Below w.heap.size w w' := by
  have Hn := Lib.hid hn; have Hx := Lib.hid hx
  clear hn hx
  go_enter Tryd.func28, Tryd.ntmps28
  go_wp2
  go_loopw [7] (fun i wr => ∃ k : Nat, k ≤ n ∧ i = .int .i64 k ∧ Below w.heap.size w wr ∧ anyLong xs = anyLong (xs.drop k)) (fun i _ => n - (intOf i).toNat)
  case atStart => exact ⟨0, Nat.zero_le _, rfl, Below.refl _ _, rfl⟩
  case round =>
    obtain ⟨k, hk, rfl, hB, hr⟩ := hrel
    have Hr := Lib.hid hr; clear hr
    by_cases hlt : k < n
    · have hkx : k < xs.length := by have := Hn.out; omega
      obtain ⟨a0, a1, a2⟩ := Hx.out k xs[k] (List.getElem?_eq_getElem hkx)
      have c0 := (hB.cell (p := ⟨b, o + k * 3, none⟩) hb).trans a0
      have c1 := (hB.cell (p := ⟨b, o + k * 3 + 1, none⟩) hb).trans a1
      have c2 := (hB.cell (p := ⟨b, o + k * 3 + 2, none⟩) hb).trans a2
      clear a0 a1 a2
      have hbr := hB.size
      have HB := Lib.hid hB; clear hB
      cases he : longTk xs[k] with
      | false =>
        have hst := Hr.out.trans (anyLong_step xs k hkx he)
        have Hst := Lib.hid hst; clear hst
        obtain ⟨x, hxk⟩ : ∃ x, xs[k] = x := ⟨_, rfl⟩
        rw [hxk] at c0 c1 c2 he
        clear hxk
        obtain ⟨kd, tx, st⟩ := x
        simp only [longTk] at c0 c1 c2 he
        have he' : decide ((200 : Int) < (tx.size : Int)) = false := decide_eq_false (by have := of_decide_eq_false he; omega)
        go_wp2
        go_roundw
        case rel => exact ⟨k + 1, by omega, by go_num, HB.out.alloc hbr _, Hst.out⟩
        case measure => simp [intOf]; omega
      | true =>
        have hst := Hr.out.trans (anyLong_hit xs k hkx he)
        have Hst := Lib.hid hst; clear hst
        obtain ⟨x, hxk⟩ : ∃ x, xs[k] = x := ⟨_, rfl⟩
        rw [hxk] at c0 c1 c2 he
        clear hxk
        obtain ⟨kd, tx, st⟩ := x
        simp only [longTk] at c0 c1 c2 he
        have he' : decide ((200 : Int) < (tx.size : Int)) = true := decide_eq_true (by have := of_decide_eq_true he; omega)
        go_wp2
        go_ret
        exact ⟨by unfold shortB; rw [Hst.out]; rfl, HB.out.alloc hbr _⟩
    · have hkn : xs.drop k = [] := List.drop_of_length_le (by have := Hn.out; omega)
      have hst := Hr.out
      rw [hkn] at hst
      have Hst := Lib.hid hst; clear hst hkn
      go_wp2
      go_ret
      refine ⟨?_, hB⟩
      unfold shortB
      rw [Hst.out, ← Hn.out]
      by_cases h8 : n ≤ 80
      · have h9 : decide ((n : Int) ≤ 80) = true := decide_eq_true (by omega)
        simp [anyLong, h8]; try omega
      · simp [anyLong, h8]; try omega

set_option maxHeartbeats 1000000 in
theorem short_zero (a : Option Addr) (c : Nat) (w : World) :
    Calls Tryd.prog 28 #[.slice a 0 c] w fun e w' => e = .returned (.bool true) ∧ w = w' := by
  go_enter Tryd.func28, Tryd.ntmps28
  go_wp2
  go_loop [7] (fun i => i = .int .i64 0) (fun _ => 0)
  case atStart => exact rfl
  case round =>
    obtain rfl := hrel
    go_wp2
    go_ret
    exact ⟨rfl, rfl⟩
end Go.Proofs.YtokdoklkaojheaaDoor

namespace Go.Proofs.YtokdoklkaojheaaDoor
open Go.RowKit Go.Shelf
attribute [local go_sem] Oper.semAt_some

/-- an item is the token, from the text's beginning on -/
def isTok (t : Tk) (x : Item) : Bool := decide (x.err = 0) && (decide ((x.kind : Int) = t.kind) && (decide (x.text = t.text) && decide (x.start = 0)))
def notTok (t : Tk) (x : Item) : Bool := !isTok t x
def readsB (t : Tk) : Bool := match (toks t.text).find? (notTok t) with
  | some _ => false
  | none => !(toks t.text).isEmpty

theorem find_not {p : Item → Bool} {xs pre' : List Item} {x : Item} (h : pre' ++ [x] <+: xs) (he : p x = true) (hok : ∀ y ∈ pre', p y = false) : xs.find? p = some x := by
  obtain ⟨r, rfl⟩ := h
  rw [List.append_assoc, List.find?_append, List.find?_eq_none.2 (fun y hy => by simp [hok y hy])]
  simp [he]
theorem find_none {p : Item → Bool} {xs : List Item} (h : ∀ x ∈ xs, p x = false) : xs.find? p = none := List.find?_eq_none.2 (fun y hy => by simp [h y hy])

theorem toList_eq' (s : ByteArray) : s.toList = s.data.toList := Lib.toList_data s
theorem toList_inj {a b : ByteArray} (h : a.toList = b.toList) : a = b := by
  rw [toList_eq', toList_eq'] at h
  cases a; cases b; simp at h; rw [h]
theorem isTok_no0 {t : Tk} {x : Item} (h : ¬ x.err = 0) : isTok t x = false := by simp [isTok, h]
theorem isTok_no1 {t : Tk} {x : Item} (h : ¬ (x.kind : Int) = t.kind) : isTok t x = false := by simp [isTok, h]
theorem isTok_no2 {t : Tk} {x : Item} (h : ¬ x.text.toList = t.text.toList) : isTok t x = false := by
  have : ¬ x.text = t.text := fun e => h (by rw [e])
  simp [isTok, this]
theorem isTok_no3 {t : Tk} {x : Item} (h : ¬ x.start = 0) : isTok t x = false := by simp [isTok, h]
theorem isTok_yes {t : Tk} {x : Item} (h0 : x.err = 0) (h1 : (x.kind : Int) = t.kind) (h2 : x.text.toList = t.text.toList) (h3 : x.start = 0) : isTok t x = true := by
  simp [isTok, h0, h1, toList_inj h2, h3]
theorem pure_own {β : Type} (P : β → Prop) : Own (fun (s : β) (_ : World) => P s) := fun _ _ _ _ hs _ _ => hs

set_option maxRecDepth 100000 in
set_option maxHeartbeats 4000000 in
theorem readsAs_in (n : Nat) (hn : 6 ≤ n) (t : Tk) (hs : t.text.size ≤ 65536) (kb sb : Nat) (m : Int) (w : World) (hsc : IsScanner w kb sb) (hm : w.cell? ⟨2, 0, none⟩ = some (.int .i64 m)) :
    CallsIn Fence.wide n Tryd.prog 93 #[.agg #[.map (some kb), .map (some sb)], .agg #[.int .i64 t.kind, .string t.text, .int .i64 t.pos]] w fun e w' => e = .returned (.bool (readsB t)) ∧ Below w.heap.size w w' := by
  have h1 : 1 ≤ n := by omega
  refine callsIn_of_wp_marks Tryd.func93 rfl trivial ?_ rfl
  simp only [Tryd.ntmps93, List.size_toArray, List.length_cons, List.length_nil, Nat.reduceAdd, Nat.reduceSub, Array.replicate_succ, Array.replicate_zero, List.push_toArray, List.append_toArray, List.nil_append, List.cons_append]
  gi_wp2_with fail
  obtain ⟨w4, hw4⟩ : ∃ w4, ((((w.alloc (Obj.cells #[Value.map (some kb), Value.map (some sb)] 69)).alloc (Obj.cells #[Value.int IntKind.i64 t.kind, Value.string t.text, Value.int IntKind.i64 0] 59)).alloc (Obj.cells #[Value.bool false] 4)).alloc (Obj.cells #[Value.bool false] 4)) = w4 := ⟨_, rfl⟩
  have hz4 : w4.heap.size = w.heap.size + 4 := by rw [← hw4]; simp
  have hB4 : Below w.heap.size w w4 := by rw [← hw4]; exact ((((Below.refl _ w).alloc (Nat.le_refl _) _).alloc (by simp) _).alloc (by simp; omega) _).alloc (by simp; omega) _
  have T4 : w4.heap[w.heap.size + 1]? = some (.cells #[.int .i64 t.kind, .string t.text, .int .i64 0] 59 (0, 0)) := by
    rw [← hw4]
    exact (heap_alloc_lt (by simp)).trans ((heap_alloc_lt (by simp)).trans (heap_alloc_at' _ _ _ (by simp)))
  have R4 : Boxed w4 (w.heap.size + 1 + 1) 4 (.bool false) := by
    rw [← hw4]
    exact (heap_alloc_lt (by simp)).trans (heap_alloc_at' _ _ _ (by simp))
  have A4 : Boxed w4 (w.heap.size + 1 + 1 + 1) 4 (.bool false) := by
    rw [← hw4]
    exact heap_alloc_at' _ _ _ (by simp)
  rw [hw4]
  clear hw4
  refine ⟨trivial, (callsIn_wide.2 (places_any t.text kb sb _)).mono ?_⟩; rintro e w9 ⟨rfl, rfl⟩
  have hw2 := World.block_lt_of_cell? _ _ hm
  have hm4 : w4.cell? ⟨2, 0, none⟩ = some (.int .i64 m) := (hB4.cell (p := ⟨2, 0, none⟩) hw2).trans hm
  have hsc4 := hsc.below hsc.lt.1 hsc.lt.2 hB4
  have hH : Held t.text kb sb (w4.heap.size + 1) w4.heap.size m ((w4.alloc (.cells #[.map (some kb), .map (some sb)] 69)).alloc (.cells #[.string t.text] 9)) := by
    refine ⟨(((below_two w4 _ _).cell (p := ⟨2, 0, none⟩) (by show 2 < w4.heap.size; omega)).trans hm4), hsc4.below hsc4.lt.1 hsc4.lt.2 (below_two w4 _ _), by simp [World.cell?_alloc_lt], by simp [World.cell?_alloc_lt], by simp [World.cell?_alloc_lt]⟩
  have hB0 := hB4.trans ((below_two w4 (.cells #[.map (some kb), .map (some sb)] 69) (.cells #[.string t.text] 9)).mono hB4.size)
  have hsz : ((w4.alloc (.cells #[.map (some kb), .map (some sb)] 69)).alloc (.cells #[.string t.text] 9)).heap.size = w4.heap.size + 2 := by simp
  have T0 : ((w4.alloc (.cells #[.map (some kb), .map (some sb)] 69)).alloc (.cells #[.string t.text] 9)).heap[w.heap.size + 1]? = some (.cells #[.int .i64 t.kind, .string t.text, .int .i64 0] 59 (0, 0)) := (heap_alloc_lt (by simp; omega)).trans ((heap_alloc_lt (by omega)).trans T4)
  have R0 := (R4.alloc (.cells #[.map (some kb), .map (some sb)] 69)).alloc (.cells #[.string t.text] 9)
  have A0 := (A4.alloc (.cells #[.map (some kb), .map (some sb)] 69)).alloc (.cells #[.string t.text] 9)
  obtain ⟨W0, hW0⟩ : ∃ W0, (w4.alloc (.cells #[.map (some kb), .map (some sb)] 69)).alloc (.cells #[.string t.text] 9) = W0 := ⟨_, rfl⟩
  rw [hW0] at hH hB0 hsz T0 R0 A0 ⊢
  rw [hz4] at hH hsz
  clear hW0 T4 R4 A4 hm4
  have hsl := hsc.lt
  clear hsc hsc4 hB4
  gi_wp2_with fail
  have hKl : ∀ b ∈ [2, kb, sb, w.heap.size + 4 + 1, w.heap.size + 4], b < W0.heap.size := by
    intro b hb; simp only [List.mem_cons, List.not_mem_nil, or_false] at hb; omega
  refine wpIn_rangeFunc_ownH rfl h1 (gf := 71) (lb := #[.pointer (some ⟨w.heap.size + 4 + 1, 0, none⟩), .pointer (some ⟨w.heap.size + 4, 0, none⟩)]) rfl trivial (enters_of Tryd.func71 (by kernel_rfl) rfl)
    (places_stops (n - 1) (by omega) t.text hs kb sb (w.heap.size + 4 + 1) (w.heap.size + 4) m W0 hH) (fun h k => h.trans k) (Kept.putObj hKl) (Below.refl _ _) (fun _ => rfl)
    (fun pre W => (((Boxed W (w.heap.size + 1 + 1 + 1) 4 (.bool (!pre.isEmpty)) ∧ (∀ x ∈ pre, isTok t x = true)) ∧ Boxed W (w.heap.size + 1 + 1) 4 (.bool false)) ∧ W.heap[w.heap.size + 1]? = some (.cells #[.int .i64 t.kind, .string t.text, .int .i64 0] 59 (0, 0))) ∧ (Below w.heap.size w W ∧ W0.heap.size ≤ W.heap.size))
    (fun c pre W => (c = .ret ∧ ∃ pre' x, pre = pre' ++ [x] ∧ isTok t x = false ∧ (∀ y ∈ pre', isTok t y = true) ∧ Boxed W (w.heap.size + 1 + 1) 4 (.bool false)) ∧ Below w.heap.size w W)
    (OwnFrom.and (OwnFrom.and (OwnFrom.and (OwnFrom.and (Own.from (boxed_own _ _ (fun pre : List Item => .bool (!pre.isEmpty))) _) (Own.from (pure_own _) _)) (Own.from (boxed_own _ _ _) _)) (Own.from (blk_own _ _ _ _) _)) (OwnFrom.and (ownFrom_below (Nat.le_refl _) (by omega)) (fun _ A B row hs hg hr => Nat.le_trans hs hg.size)))
    (fun c => OwnFrom.and (fun _ A B row hs hg hr => by obtain ⟨h1, pre', x, h2, h3, h4, h5⟩ := hs; exact ⟨h1, pre', x, h2, h3, h4, Boxed.kept' h5 hg hr⟩) (ownFrom_below (Nat.le_refl _) (by omega)))
    ⟨⟨⟨⟨A0, by simp⟩, R0⟩, T0⟩, hB0, Nat.le_refl _⟩
    (fun x a' W => ∃ Bx, w.heap.size + 3 < Bx ∧ W.heap[Bx]? = some (.cells #[.int .i64 x.kind, .string x.text, .int .i64 x.start, .int .i64 x.stop] 73 (0, 0)) ∧ a' = { tmps := #[.agg #[.map (some kb), .map (some sb)], .agg #[.int .i64 t.kind, .string t.text, .int .i64 t.pos], .pointer (some ⟨w.heap.size, 0, none⟩), .pointer (some ⟨w.heap.size + 1, 0, none⟩), .pointer (some ⟨w.heap.size + 1 + 1, 0, none⟩), .pointer (some ⟨w.heap.size + 1 + 1 + 1, 0, none⟩), .pointer (some ⟨Bx, 0, none⟩), .int .i64 x.err, .pointer (some ⟨w.heap.size + 1, 2, none⟩), .agg #[.map (some kb), .map (some sb)], .pointer (some ⟨w.heap.size + 1, 1, none⟩), .string t.text, .func (.func 71) #[] #[.pointer (some ⟨w.heap.size + 4 + 1, 0, none⟩), .pointer (some ⟨w.heap.size + 4, 0, none⟩)], .agg #[.int .i64 x.kind, .string x.text, .int .i64 x.start, .int .i64 x.stop], .int .i64 x.err, undef, undef, undef, undef, undef, undef, undef, undef, undef], defers := [] })
    (fun x a' _ X Y row hs hg hr => by obtain ⟨Bx, h1, h2, h3⟩ := hs; exact ⟨Bx, h1, blk_own Bx _ _ _ () X Y row h2 hg (fun r e => (hr r e).2), h3⟩)
    ?assign ?body ?done ?stop
  case assign =>
    rintro l pre x W K ⟨⟨⟨⟨C0, hG⟩, C1⟩, C2⟩, hB, hW⟩ hK
    simp only [encI]
    gi_wp2
    exact hK _ _ ((KeepsOthers.alloc _ _).from _) (Kept.of_below ((Below.refl _ W).alloc (Nat.le_refl _) _) (fun b hb => Nat.lt_of_lt_of_le (hKl b hb) hW)) ⟨⟨⟨⟨C0.alloc _, hG⟩, C1.alloc _⟩, (heap_alloc_lt (Array.getElem?_eq_some_iff.1 C2).1).trans C2⟩, hB.alloc hB.size _, by simp; omega⟩ ⟨W.heap.size, by have := C0.lt; omega, heap_alloc_at _ _, rfl⟩
  case body =>
    rintro l pre x a' W hl _ ⟨⟨⟨⟨C0, hG⟩, C1⟩, C2⟩, hB, hW⟩ ⟨Bx, hBx, hX, rfl⟩ hlt
    have x0 : W.cell? ⟨Bx, 0, none⟩ = some (.int .i64 x.kind) := by simp [World.cell?, hX]
    have x1 : W.cell? ⟨Bx, 1, none⟩ = some (.string x.text) := by simp [World.cell?, hX]
    have x2 : W.cell? ⟨Bx, 2, none⟩ = some (.int .i64 x.start) := by simp [World.cell?, hX]
    have t0 : W.cell? ⟨w.heap.size + 1, 0, none⟩ = some (.int .i64 t.kind) := by simp [World.cell?, C2]
    have t1 : W.cell? ⟨w.heap.size + 1, 1, none⟩ = some (.string t.text) := by simp [World.cell?, C2]
    have t2 : W.cell? ⟨w.heap.size + 1, 2, none⟩ = some (.int .i64 0) := by simp [World.cell?, C2]
    have c0 := C0.cell
    have c1 := C1.cell
    have f0 := C0.frozen
    have f1 := C1.frozen
    have hV : KeepsFrom W0.heap.size W (W.setCell ⟨w.heap.size + 1 + 1, 0, none⟩ (.bool false)) ∧ Boxed (W.setCell ⟨w.heap.size + 1 + 1, 0, none⟩ (.bool false)) (w.heap.size + 1 + 1) 4 (.bool false) ∧ Below w.heap.size w (W.setCell ⟨w.heap.size + 1 + 1, 0, none⟩ (.bool false)) :=
      ⟨(KeepsOthers.setCell _ _ _).from _, C1.set (.bool false), hB.setCell (p := ⟨w.heap.size + 1 + 1, 0, none⟩) (by show w.heap.size ≤ w.heap.size + 1 + 1; omega) _⟩
    have hR : isTok t x = false → KeepsFrom W0.heap.size W (W.setCell ⟨w.heap.size + 1 + 1, 0, none⟩ (.bool false)) ∧ (∃ pre' x', pre ++ [x] = pre' ++ [x'] ∧ isTok t x' = false ∧ (∀ y ∈ pre', isTok t y = true) ∧ Boxed (W.setCell ⟨w.heap.size + 1 + 1, 0, none⟩ (.bool false)) (w.heap.size + 1 + 1) 4 (.bool false)) ∧ Below w.heap.size w (W.setCell ⟨w.heap.size + 1 + 1, 0, none⟩ (.bool false)) :=
      fun h => ⟨hV.1, ⟨pre, x, rfl, h, hG, hV.2.1⟩, hV.2.2⟩
    have Hsz := Lib.hid hsz; clear hsz
    have HR := Lib.hid hR; clear hR hV
    have hfo : Tryd.prog.follows Departure.mixedOrders = true := by kernel_rfl
    by_cases he : x.err = 0
    · have d0 : (x.err != 0) = false := by simpa using he
      have hN : isTok t x = true → KeepsFrom W0.heap.size W (W.setCell ⟨w.heap.size + 1 + 1 + 1, 0, none⟩ (.bool true)) ∧ Kept [2, kb, sb, w.heap.size + 4 + 1, w.heap.size + 4] W (W.setCell ⟨w.heap.size + 1 + 1 + 1, 0, none⟩ (.bool true)) ∧ ((((Boxed (W.setCell ⟨w.heap.size + 1 + 1 + 1, 0, none⟩ (.bool true)) (w.heap.size + 1 + 1 + 1) 4 (.bool (!(pre ++ [x]).isEmpty)) ∧ (∀ y ∈ pre ++ [x], isTok t y = true)) ∧ Boxed (W.setCell ⟨w.heap.size + 1 + 1 + 1, 0, none⟩ (.bool true)) (w.heap.size + 1 + 1) 4 (.bool false)) ∧ (W.setCell ⟨w.heap.size + 1 + 1 + 1, 0, none⟩ (.bool true)).heap[w.heap.size + 1]? = some (.cells #[.int .i64 t.kind, .string t.text, .int .i64 0] 59 (0, 0))) ∧ (Below w.heap.size w (W.setCell ⟨w.heap.size + 1 + 1 + 1, 0, none⟩ (.bool true)) ∧ W0.heap.size ≤ (W.setCell ⟨w.heap.size + 1 + 1 + 1, 0, none⟩ (.bool true)).heap.size)) := by
        intro h
        have hb1 := hB.setCell (p := ⟨w.heap.size + 1 + 1 + 1, 0, none⟩) (by show w.heap.size ≤ w.heap.size + 1 + 1 + 1; omega) (.bool true)
        refine ⟨(KeepsOthers.setCell _ _ _).from _, ⟨by simp, fun b hb => ?_, fun b c f hb => ?_⟩, ⟨⟨⟨?_, ?_⟩, C1.other (by omega) _⟩, ?_⟩, hb1, by simpa using hW⟩
        · refine Below.heap_setCell _ _ _ b ?_
          simp only [List.mem_cons, List.not_mem_nil, or_false] at hb
          show b ≠ w.heap.size + 1 + 1 + 1
          omega
        · refine (Below.heap_setCell _ _ _ b ?_).trans hb
          show b ≠ w.heap.size + 1 + 1 + 1
          rintro rfl
          have h0 : W.heap[w.heap.size + 1 + 1 + 1]? = some (.cells #[.bool (!pre.isEmpty)] 4 (0, 0)) := C0
          rw [hb] at h0; cases h0
        · have := C0.set (.bool true)
          rw [show (!(pre ++ [x]).isEmpty) = true by cases pre <;> rfl]
          exact this
        · intro y hy
          rcases List.mem_append.1 hy with h1 | h1
          · exact hG y h1
          · rw [List.mem_singleton.1 h1]; exact h
        · refine (Below.heap_setCell _ _ _ _ ?_).trans C2
          show w.heap.size + 1 ≠ w.heap.size + 1 + 1 + 1
          omega
      have HN := Lib.hid hN; clear hN
      clear hX C0 C1 C2 hG hB
      gi_wp2_with fail
      all_goals first
        | (refine HN.out (isTok_yes he ?_ ?_ ?_) <;> assumption)
        | (have h : isTok t x = false := (by first | (apply isTok_no3; assumption) | (apply isTok_no2; assumption) | (apply isTok_no1; assumption)); exact ⟨(HR.out h).1, ⟨rfl, (HR.out h).2.1⟩, (HR.out h).2.2⟩)
    · have d0 : (x.err != 0) = true := by simpa using he
      clear hX C0 C1 C2 hG hB
      gi_wp2_with fail
      all_goals exact ⟨(HR.out (isTok_no0 he)).1, ⟨rfl, (HR.out (isTok_no0 he)).2.1⟩, (HR.out (isTok_no0 he)).2.2⟩
  case done =>
    rintro D xs W hD rfl ⟨⟨⟨⟨C0, hG⟩, C1⟩, C2⟩, hB, hW⟩ hK
    have c0 := C0.cell
    have c1 := C1.cell
    have f1 := C1.frozen
    have hr : readsB t = !(toks t.text).isEmpty := by
      unfold readsB
      rw [find_none (p := notTok t) (fun x hx => by simp [notTok, hG x hx])]
    have Hr := Lib.hid hr; clear hr
    have Hsz := Lib.hid hsz; clear hsz
    have F1 := C1.set (.bool (!(toks t.text).isEmpty))
    have hbe := hB.setCell (p := ⟨w.heap.size + 1 + 1, 0, none⟩) (by show w.heap.size ≤ w.heap.size + 1 + 1; omega) (.bool (!(toks t.text).isEmpty))
    have hK' : (W.setCell ⟨w.heap.size + 1 + 1, 0, none⟩ (.bool (!(toks t.text).isEmpty))).heap[D]? = some (.deferred (some [])) := (KeepsOthers.setCell _ _ _).same D _ hK rfl
    clear C0 C1 C2 hG
    gi_wp2_with fail
    have d1 := cell_shut hK' F1
    have hbl := hbe.trans (belowK_b (w := w) (Nat.le_refl _) _ D _ (.deferred none) (by have := Hsz.out; omega) hK' rfl rfl)
    refine ⟨by simp, .inl ⟨_, _, rfl, run_takeDeferred hK', ?_⟩⟩
    refine ⟨.bool (!(toks t.text).isEmpty), by simp [results, Tryd.results93, go_sem, d1], ?_, hbl⟩
    rw [Hr.out]
  case stop =>
    rintro D c pre W hD hpre ⟨⟨rfl, pre', x, rfl, he, hok, C1⟩, hB⟩ hK
    have hr : readsB t = false := by
      unfold readsB
      rw [find_not (p := notTok t) hpre (by simp [notTok, he]) (fun y hy => by simp [notTok, hok y hy])]
    have Hsz := Lib.hid hsz; clear hsz
    gi_wp2
    have d1 := cell_shut hK C1
    have hbl := hB.trans (belowK_b (w := w) (Nat.le_refl _) _ D _ (.deferred none) (by have := Hsz.out; omega) hK rfl rfl)
    refine ⟨by simp, .inl ⟨_, _, rfl, run_takeDeferred hK, ?_⟩⟩
    refine ⟨.bool false, by simp [results, Tryd.results93, go_sem, d1], ?_, hbl⟩
    rw [hr]

theorem readsAs_any (t : Tk) (hs : t.text.size ≤ 65536) (kb sb : Nat) (m : Int) (w : World) (hsc : IsScanner w kb sb) (hm : w.cell? ⟨2, 0, none⟩ = some (.int .i64 m)) :
    Calls Tryd.prog 93 #[.agg #[.map (some kb), .map (some sb)], .agg #[.int .i64 t.kind, .string t.text, .int .i64 t.pos]] w fun e w' => e = .returned (.bool (readsB t)) ∧ Below w.heap.size w w' :=
  callsIn_wide.1 (readsAs_in 6 (by omega) t hs kb sb m w hsc hm)
end Go.Proofs.YtokdoklkaojheaaDoor

namespace Go.Proofs.YtokdoklkaojheaaDoor
open Go.RowKit

structure TheirsLoop (w : World) (xs : List Tk) (v : Value) (k : Nat) (wr : World) : Prop where
  row : wr.ownsRow w.heap.size 59 3 v k (tkRow (xs.take k))
  below : Below w.heap.size w wr

set_option maxHeartbeats 4000000 in
set_option maxRecDepth 100000 in
theorem theirs_any (b o n c : Nat) (xs : List Tk) (w : World) (hn : n = xs.length) (hm : n ≤ 100000) (hb : b < w.heap.size) (hx : tksAt w b o xs) :
    Calls Tryd.prog 31 #[.slice (some ⟨b, o, none⟩) n c] w fun e w' => ∃ v, e = .returned v ∧ w'.ownsRow w.heap.size 59 3 v n (tkRow xs) ∧ Below w.heap.size w w' := by
  obtain ⟨i0, hi, hz0, hz1, hz2⟩ := info_parts Tryd.info59
  have Hn := Lib.hid hn; have Hx := Lib.hid hx
  clear hn hx
  go_enter Tryd.func31, Tryd.ntmps31
  go_wp2
  go_loopw [3, 8] (fun v i wr => ∃ k : Nat, k ≤ n ∧ i = .int .i64 k ∧ TheirsLoop w xs v k wr) (fun _ i _ => n - (intOf i).toNat)
  case atStart => exact ⟨0, Nat.zero_le _, rfl, ⟨World.ownsRow_nil _ _ _ _, Below.refl _ _⟩⟩
  case round =>
    obtain ⟨k, hk, rfl, hT⟩ := hrel
    by_cases hlt : k < n
    · have hkx : k < xs.length := by have := Hn.out; omega
      have hbr := hT.below.size
      obtain ⟨a0, a1, a2⟩ := Hx.out k xs[k] (List.getElem?_eq_getElem hkx)
      have c0 := (hT.below.cell (p := ⟨b, o + k * 3, none⟩) hb).trans a0
      have c1 := (hT.below.cell (p := ⟨b, o + k * 3 + 1, none⟩) hb).trans a1
      have c2 := (hT.below.cell (p := ⟨b, o + k * 3 + 2, none⟩) hb).trans a2
      have hsn : xs.take (k + 1) = xs.take k ++ [xs[k]] := List.take_succ_eq_append_getElem hkx
      have Hsn := Lib.hid hsn; clear hsn
      have hown := hT.row
      have HT := Lib.hid hT; clear hT a0 a1 a2
      obtain ⟨x, hxk⟩ : ∃ x, xs[k] = x := ⟨_, rfl⟩
      rw [hxk] at c0 c1 c2 Hsn
      clear hxk
      obtain ⟨kd, tx, st⟩ := x
      simp only at c0 c1 c2
      go_wp2_with (at_builtin; refine wpList_append_own _ rfl _ _ 26 rfl w.heap.size 59 i0 (.agg #[.int .i64 0, .string ⟨#[]⟩, .int .i64 0]) 3 32 Tryd.underlying26 hi hz0 hz1 hz2 rfl (by decide) _ _ _ rfl ((hown.alloc _).alloc _) ⟨wr.heap.size + 1, 0, none⟩ 1 1 [.int .i64 kd, .string tx, .int .i64 st] rfl rfl ?c1 ?c2 ?c3 ?c4 ?c5 ?_)
      case c1 => intro j u hj; have := three_new (wr.alloc (.cells #[.int .i64 kd, .string tx, .int .i64 st] 61)) (.int .i64 kd) (.string tx) (.int .i64 st) 59 j u hj; simpa using this
      case c2 => simp [Value.oneCell']
      case c3 => unfold maxLen; omega
      case c4 => omega
      case c5 => simp; omega
      · intro v' w1 hown' hgrow _
        have hbig : Below w.heap.size w w1 := ((HT.out.below.alloc hbr _).alloc (by simp; omega) _).grown hgrow (by simp; omega) (fun j hj => (HT.out.row.lt j hj).1)
        have hnew : TheirsLoop w xs v' (k + 1) w1 := ⟨by rw [Hsn.out, tkRow_snoc]; exact hown', hbig⟩
        have Hnew := Lib.hid hnew
        clear hown' hown hgrow hbig hnew
        go_wp2
        go_roundw
        case rel => exact ⟨k + 1, by omega, by go_num, Hnew.out⟩
        case measure => simp [intOf]; omega
    · have hkn : k = n := by omega
      subst hkn
      have hrow := hT.row
      rw [show xs.take k = xs from List.take_of_length_le (by have := Hn.out; omega)] at hrow
      have hbl := hT.below
      have Hrow := Lib.hid hrow; have Hbl := Lib.hid hbl
      clear hrow hbl hT
      go_wp2
      go_ret
      exact ⟨_, rfl, Hrow.out, Hbl.out⟩

theorem theirs_zero (a : Option Addr) (c : Nat) (w : World) :
    Calls Tryd.prog 31 #[.slice a 0 c] w fun e w' => e = .returned (.slice none 0 0) ∧ w = w' := by
  go_enter Tryd.func31, Tryd.ntmps31
  go_wp2
  go_loopw [3, 8] (fun v i wr => v = .slice none 0 0 ∧ i = .int .i64 0 ∧ wr = w) (fun _ _ _ => 0)
  case atStart => exact ⟨rfl, rfl, rfl⟩
  case round =>
    obtain ⟨rfl, rfl, rfl⟩ := hrel
    go_wp2
    go_ret
    exact ⟨rfl, rfl⟩
end Go.Proofs.YtokdoklkaojheaaDoor

namespace Go.Proofs.YtokdoklkaojheaaDoor
open Go.RowKit

theorem ownsRowF_below {A B : World} {base : Nat} {e : TypeId} {size : Nat} {v : Value} {n : Nat} {xs : List Value} (h : A.ownsRowF base e size v n xs) (hb : Below A.heap.size A B) : B.ownsRowF base e size v n xs := by
  refine ⟨h.1, ?_⟩
  rcases h.2 with h0 | ⟨g, cap, cur, fz, h1, h2, h3, h4⟩
  · exact .inl h0
  · exact .inr ⟨g, cap, cur, fz, h1, h2, (hb.block g (Array.getElem?_eq_some_iff.1 h3).1).trans h3, h4⟩
theorem builderAt_below {T e : TypeId} {B b : Nat} {p : Value} {bs : List Value} {w w' : World} (h : Lib.BuilderAtF T e B b p bs w) (hb : Below w.heap.size w w') : Lib.BuilderAtF T e B b p bs w' := by
  have hlt := h.lt
  obtain ⟨hB, v, h1, h2, h3⟩ := h
  exact ⟨hB, v, (hb.block b hlt).trans h1, ownsRowF_below h2 hb, h3⟩
theorem builder_below {T e : TypeId} {B b : Nat} {bs : List Value} {w w' : World} (h : Lib.IsBuilderF T e B b bs w) (hb : Below w.heap.size w w') : Lib.IsBuilderF T e B b bs w' :=
  h.elim (fun x => .inl (builderAt_below x hb)) (fun x => .inr (builderAt_below x hb))
theorem builder_lt {T e : TypeId} {B b : Nat} {bs : List Value} {w : World} (h : Lib.IsBuilderF T e B b bs w) : b < w.heap.size := h.elim (fun x => x.lt) (fun x => x.lt)
theorem builder_new (w : World) (B : Nat) (hB : B ≤ w.heap.size) : Lib.IsBuilderF 107 5 B w.heap.size [] (w.alloc (.cells #[.pointer none, .slice none 0 0] 107)) :=
  .inl ⟨hB, _, by show (w.heap.push _)[w.heap.size]? = _; simp, World.ownsRowF_nil _ _ _ _, by simp [Value.ownBlock]⟩
theorem strCells_bytes (l : List UInt8) (s : ByteArray) : Lib.byteCells l ++ Lib.strCells s = Lib.byteCells (l ++ s.data.toList) := by
  simp [Lib.byteCells, Lib.strCells]
theorem byteCells_snoc (l : List UInt8) : Lib.byteCells l ++ [.int .u8 32] = Lib.byteCells (l ++ [32]) := by
  simp [Lib.byteCells]
theorem byteCells_len (l : List UInt8) : (Lib.byteCells l).length = l.length := by simp [Lib.byteCells]
end Go.Proofs.YtokdoklkaojheaaDoor

namespace Go.Proofs.YtokdoklkaojheaaDoor
open Go.RowKit

/-- the text is one token of the kind -/
def oneTok (t : Tk) : List Item → Bool
  | [x] => decide ((x.kind : Int) = t.kind) && decide (x.text = t.text)
  | _ => false
def singleB (t : Tk) : Bool := match (toks t.text).find? badTok with
  | some _ => false
  | none => oneTok t (toks t.text)

/-- the reference's Tokens of a short text, by its three cases -/
theorem refTokens_short (s : ByteArray) (w : World) (hs : s.size ≤ 10000) :
    Calls Tryd.prog 9 #[.string s] w fun e w' => ∃ v off err, e = .returned (.tuple #[v, .int .i64 off, .int .i64 err]) ∧ Below w.heap.size w w' ∧
      ((∃ x, (toks s).find? badTok = some x ∧ v = .slice none 0 0 ∧ err = x.err ∧ x.err ≠ 0) ∨
       ((toks s).find? badTok = none ∧ err = 0 ∧ (∃ a cap, v = .slice a (toks s).length cap ∧ (toks s = [] ∨ ∃ g, a = some ⟨g, 0, none⟩ ∧ itemsAt w' g (toks s))))) := by
  refine (refTokens_any s w (by unfold Go.maxLen; omega)).mono ?_
  rintro e w' ⟨v, off, err, rfl, h, hb⟩
  refine ⟨v, off, err, rfl, hb, ?_⟩
  unfold RefOut at h
  rw [if_neg (by omega)] at h
  cases hf : (toks s).find? badTok with
  | some x =>
    rw [hf] at h
    obtain ⟨rfl, rfl, rfl⟩ := h
    have := List.find?_some hf
    exact .inl ⟨x, rfl, rfl, rfl, by simpa [badTok] using this⟩
  | none =>
    rw [hf] at h
    simp only at h
    have hl := toks_len s
    rw [if_neg (by omega)] at h
    obtain ⟨hr, rfl, rfl⟩ := h
    refine .inr ⟨rfl, rfl, ?_⟩
    rcases Nat.eq_zero_or_pos (toks s).length with h0 | h0
    · have he : toks s = [] := List.eq_nil_of_length_eq_zero h0
      rcases hr.2 with ⟨rfl, _⟩ | ⟨g, cap, cur, rfl, _⟩
      · exact ⟨none, 0, by rw [h0], .inl he⟩
      · exact ⟨_, cap, rfl, .inl he⟩
    · obtain ⟨n, hn⟩ : ∃ n, (toks s).length = n + 1 := ⟨(toks s).length - 1, by omega⟩
      obtain ⟨g, cap, rfl⟩ : ∃ g cap, v = .slice (some ⟨g, 0, none⟩) (toks s).length cap := by
        rw [hn] at hr ⊢; exact ownsRow_succ hr
      exact ⟨_, cap, rfl, .inr ⟨g, rfl, row_items hr⟩⟩

set_option maxHeartbeats 2000000 in
set_option maxRecDepth 100000 in
theorem single_any (t : Tk) (w : World) (hs : t.text.size ≤ 10000) :
    Calls Tryd.prog 56 #[.agg #[.int .i64 t.kind, .string t.text, .int .i64 t.pos]] w fun e w' => e = .returned (.bool (singleB t)) ∧ Below w.heap.size w w' := by
  have Ct := Lib.hid (fun w => refTokens_short t.text w hs)
  have HB0 := Lib.hid ((Below.refl _ w).alloc (Nat.le_refl _) (.cells #[.int .i64 t.kind, .string t.text, .int .i64 t.pos] 61))
  obtain ⟨kd, tx, st⟩ := t
  simp only at Ct HB0 ⊢
  go_enter Tryd.func56, Tryd.ntmps56
  go_wp2_with fail
  refine (Ct.out _).mono ?_; rintro e w1 ⟨v, off, err, rfl, hb, hc⟩
  have t0 := (hb.cell (p := ⟨w.heap.size, 0, none⟩) (by simp)).trans (show (w.alloc (.cells #[.int .i64 kd, .string tx, .int .i64 st] 61)).cell? ⟨w.heap.size, 0, none⟩ = some (.int .i64 kd) by simp)
  have t1 := (hb.cell (p := ⟨w.heap.size, 1, none⟩) (by simp)).trans (show (w.alloc (.cells #[.int .i64 kd, .string tx, .int .i64 st] 61)).cell? ⟨w.heap.size, 1, none⟩ = some (.string tx) by simp)
  have Hb := Lib.hid (HB0.out.trans (hb.mono HB0.out.size)); clear hb
  rcases hc with ⟨x, hf, rfl, rfl, hx⟩ | ⟨hf, rfl, a, cap, rfl, hc⟩
  · have hx' : (x.err == 0) = false := by simpa using hx
    have Hf := Lib.hid hf; clear hf
    go_wp2
    go_quiet (fail)
    go_wp2
    go_ret
    refine ⟨?_, below_drewN Hb.out _⟩
    unfold singleB; rw [Hf.out]; rfl
  · rcases hc with hc | ⟨g, rfl, hc⟩
    · rw [hc]
      rw [hc] at hf
      have Hc := Lib.hid hc; have Hf := Lib.hid hf; clear hc hf
      simp only [List.length_nil]
      go_wp2
      go_quiet (fail)
      go_wp2
      go_ret
      refine ⟨?_, below_drewN Hb.out _⟩
      unfold singleB; simp only; rw [Hc.out, Hf.out]; rfl
    · match hm : toks tx, hc with
      | [], hc =>
        rw [hm] at hf
        have Hc := Lib.hid hm; have Hf := Lib.hid hf; clear hc hf hm
        simp only [List.length_nil]
        go_wp2
        go_quiet (fail)
        go_wp2
        go_ret
        refine ⟨?_, below_drewN Hb.out _⟩
        unfold singleB; simp only; rw [Hc.out, Hf.out]; rfl
      | [x], hc =>
        rw [hm] at hf
        have Hc := Lib.hid hm; have Hf := Lib.hid hf; clear hf hm
        obtain ⟨c0, c1, c2⟩ := hc 0 x rfl
        clear hc
        obtain ⟨xk, xt, xs, xp, xe⟩ := x
        simp only [Nat.zero_mul, Nat.zero_add] at c0 c1 c2
        simp only [List.length_cons, List.length_nil]
        have hres : singleB ⟨kd, tx, st⟩ = (decide ((xk : Int) = kd) && decide (xt = tx)) := by
          unfold singleB; simp only; rw [Hc.out, Hf.out]; rfl
        have Hres := Lib.hid hres
        clear hres Hc Hf
        by_cases hk : (xk : Int) = kd
        · have dk : ((xk : Int) == kd) = true := by simpa using hk
          have dk2 := Lib.hid (decide_eq_true hk)
          clear hk
          by_cases ht : xt = tx
          · have dt2 := Lib.hid (decide_eq_true ht)
            have dt : (xt.toList == tx.toList) = true := by rw [ht]; simp
            clear ht
            go_wp2
            go_quiet (fail)
            go_wp2
            go_ret
            exact ⟨by rw [Hres.out, dk2.out, dt2.out]; rfl, below_drewN Hb.out _⟩
          · have dt : (xt.toList == tx.toList) = false := by
              rw [beq_eq_false_iff_ne]; intro e; exact ht (toList_inj e)
            have dt2 := Lib.hid (decide_eq_false ht)
            clear ht
            go_wp2
            go_quiet (fail)
            go_wp2
            go_ret
            exact ⟨by rw [Hres.out, dk2.out, dt2.out]; rfl, below_drewN Hb.out _⟩
        · have dk : ((xk : Int) == kd) = false := by simpa using hk
          have dk2 := Lib.hid (decide_eq_false hk)
          clear hk
          go_wp2
          go_quiet (fail)
          go_wp2
          go_ret
          exact ⟨by rw [Hres.out, dk2.out]; rfl, below_drewN Hb.out _⟩
      | x :: y :: zs, hc =>
        rw [hm] at hf
        have hres : singleB ⟨kd, tx, st⟩ = false := by
          unfold singleB; simp only; rw [hm, hf]; rfl
        have Hres := Lib.hid hres
        obtain ⟨n, hn⟩ : ∃ n, (x :: y :: zs).length = n := ⟨_, rfl⟩
        have hl : ((n : Int) == 1) = false := by simp; rw [← hn]; simp; omega
        rw [hn]
        clear hf hm hc hres hn
        go_wp2
        go_quiet (fail)
        go_wp2
        go_ret
        exact ⟨by rw [Hres.out]; rfl, below_drewN Hb.out _⟩
end Go.Proofs.YtokdoklkaojheaaDoor

namespace Go.Proofs.YtokdoklkaojheaaDoor
open Go.RowKit Go.Shelf

def ckTok (t : Tk) : Int := if t.kind < 0 ∨ 4 < t.kind then 11 else if readsB t = true then 0 else 1

set_option maxHeartbeats 1000000 in
set_option maxRecDepth 100000 in
theorem checkToken_any (t : Tk) (hs : t.text.size ≤ 65536) (kb sb : Nat) (m : Int) (w : World) (hsc : IsScanner w kb sb) (hm : w.cell? ⟨2, 0, none⟩ = some (.int .i64 m)) :
    Calls Tryd.prog 59 #[.agg #[.map (some kb), .map (some sb)], .agg #[.int .i64 t.kind, .string t.text, .int .i64 t.pos]] w fun e w' => e = .returned (.int .i64 (ckTok t)) ∧ Below w.heap.size w w' := by
  have hck : ckText (t.text.size : Int) = 0 := by unfold ckText; rw [if_neg (by omega)]
  have hB2 := below_two w (.cells #[.map (some kb), .map (some sb)] 69) (.cells #[.int .i64 t.kind, .string t.text, .int .i64 t.pos] 59)
  have C := Lib.hid (fun w3 (hb : Below w.heap.size w w3) => readsAs_any t hs kb sb m w3 (hsc.below hsc.lt.1 hsc.lt.2 hb) ((hb.cell (p := ⟨2, 0, none⟩) (World.block_lt_of_cell? _ _ hm)).trans hm))
  have D := Lib.hid (fun w => checkText_any t.text w)
  rw [hck] at D
  have HB := Lib.hid hB2
  clear hck hsc hm hB2
  by_cases h : t.kind < 0 ∨ 4 < t.kind
  · have hc : ckTok t = 11 := by unfold ckTok; rw [if_pos h]
    rw [hc]
    clear hc C D
    by_cases h0 : t.kind < 0
    · have d0 : decide (t.kind < 0) = true := decide_eq_true h0
      clear h h0
      go_enter Tryd.func59, Tryd.ntmps59
      go_wp2
      go_ret
      exact ⟨rfl, HB.out⟩
    · have d0 : decide (t.kind < 0) = false := decide_eq_false h0
      have d1 : decide (4 < t.kind) = true := decide_eq_true (h.resolve_left h0)
      clear h h0
      go_enter Tryd.func59, Tryd.ntmps59
      go_wp2
      go_ret
      exact ⟨rfl, HB.out⟩
  · have d0 : decide (t.kind < 0) = false := decide_eq_false (fun e => h (.inl e))
    have d1 : decide (4 < t.kind) = false := decide_eq_false (fun e => h (.inr e))
    have hc : ckTok t = if readsB t = true then 0 else 1 := by unfold ckTok; rw [if_neg h]
    rw [hc]
    clear hc h
    go_enter Tryd.func59, Tryd.ntmps59
    cases hr : readsB t with
    | true =>
      rw [hr] at C
      go_wp2_with fail
      refine (D.out _).mono ?_; rintro e w3 ⟨rfl, rfl⟩
      go_wp2_with fail
      refine (C.out _ HB.out).mono ?_; rintro e w4 ⟨rfl, hb4⟩
      have HB4 := Lib.hid (HB.out.trans (hb4.mono HB.out.size))
      clear hb4
      go_wp2
      go_ret
      exact ⟨rfl, HB4.out⟩
    | false =>
      rw [hr] at C
      go_wp2_with fail
      refine (D.out _).mono ?_; rintro e w3 ⟨rfl, rfl⟩
      go_wp2_with fail
      refine (C.out _ HB.out).mono ?_; rintro e w4 ⟨rfl, hb4⟩
      have HB4 := Lib.hid (HB.out.trans (hb4.mono HB.out.size))
      clear hb4
      go_wp2
      go_ret
      exact ⟨rfl, HB4.out⟩
end Go.Proofs.YtokdoklkaojheaaDoor

namespace Go.Proofs.YtokdoklkaojheaaDoor
open Go.RowKit

theorem extract_size (s : ByteArray) (p n : Nat) (h : p + n ≤ s.size) : ((s.extract p s.size).extract 0 n).size = n := by
  simp [ByteArray.size_extract]; omega

/-- the first item from a place on -/
theorem toksF_first (s : ByteArray) (g at_ : Nat) (h : at_ ≤ s.size) : toksF s (g + 1) at_ = [] ∨ ∃ x, toksF s (g + 1) at_ = x :: (if x.err = 0 then toksF s g x.stop else []) ∧ (x.err = 0 → x.stop = x.start + x.text.size ∧ x.stop ≤ s.size ∧ 0 < x.text.size ∧ at_ ≤ x.start) := by
  obtain ⟨⟨p, e0⟩, hp⟩ : ∃ pe, skipL s.data.toList at_ = pe := ⟨_, rfl⟩
  have hsk := skipL_le s at_ h
  rw [hp] at hsk
  rw [toksF_succ s g at_ p e0 hp]
  by_cases he : e0 = 0
  · rw [if_pos he]
    by_cases hps : p = s.size
    · rw [if_pos hps]; exact .inl rfl
    · rw [if_neg hps]
      have hrd := readAt_le s p hsk.2
      refine .inr ⟨_, rfl, fun hx => ?_⟩
      have hpos := readL_pos _ (show (readL (allRs (s.data.toList.drop p))).2.2 = 0 from hx)
      have hz := extract_size s p (readAt s p).2.1 hrd
      exact ⟨by rw [hz], hrd, by rw [hz]; exact hpos, hsk.1⟩
  · rw [if_neg he]
    exact .inr ⟨⟨0, ⟨#[]⟩, p, p, e0⟩, by simp only; rw [if_neg he], fun hx => absurd hx he⟩
theorem toks_first (s : ByteArray) : toks s = [] ∨ ∃ x, toks s = x :: (if x.err = 0 then toksF s s.size x.stop else []) ∧ (x.err = 0 → x.stop = x.start + x.text.size ∧ x.stop ≤ s.size ∧ 0 < x.text.size ∧ 0 ≤ x.start) :=
  toksF_first s s.size 0 (Nat.zero_le _)

theorem isTok_iff (t : Tk) (x : Item) : isTok t x = true ↔ x.err = 0 ∧ (x.kind : Int) = t.kind ∧ x.text = t.text ∧ x.start = 0 := by simp [isTok]

theorem reads_single (t : Tk) : readsB t = singleB t := by
  rw [Bool.eq_iff_iff]
  rcases toks_first t.text with h0 | ⟨x, hx, hf⟩
  · simp [readsB, singleB, h0, oneTok]
  · constructor
    · intro h
      unfold readsB at h
      split at h
      · cases h
      · rename_i hn
        have hall := List.find?_eq_none.1 hn
        have hx1 := hall x (by rw [hx]; simp)
        have hx2 : isTok t x = true := by simpa [notTok] using hx1
        obtain ⟨e0, ek, et, es⟩ := (isTok_iff t x).1 hx2
        obtain ⟨f1, f2, f3, f4⟩ := hf e0
        have hst : x.stop = t.text.size := by rw [f1, es, et]; omega
        rw [if_pos e0, hst, toksF_end] at hx
        unfold singleB
        rw [hx]
        simp [badTok, e0, oneTok, ek, et]
    · intro h
      unfold singleB at h
      split at h
      · cases h
      · rename_i hn
        have hall := List.find?_eq_none.1 hn
        have hx1 := hall x (by rw [hx]; simp)
        have e0 : x.err = 0 := by simpa [badTok] using hx1
        rw [hx] at h
        rw [if_pos e0] at h hx
        obtain ⟨f1, f2, f3, f4⟩ := hf e0
        cases hr : toksF t.text t.text.size x.stop with
        | cons y ys => rw [hr] at h; simp [oneTok] at h
        | nil =>
          rw [hr] at h hx
          simp [oneTok] at h
          have es : x.start = 0 := by rw [f1, h.2] at f2; omega
          have hi := (isTok_iff t x).2 ⟨e0, h.1, h.2, es⟩
          unfold readsB
          rw [hx]
          simp [notTok, hi]

end Go.Proofs.YtokdoklkaojheaaDoor

namespace Go.Proofs.YtokdoklkaojheaaDoor
open Go.RowKit Go.Shelf

set_option maxRecDepth 100000 in
theorem eq59 (d : Nat) (k1 a1 k3 a3 : Int) (s1 s3 : ByteArray) (w : World) : (Op.equalIn (d + 2) 59 (.agg #[.int .i64 k1, .string s1, .int .i64 a1]) (.agg #[.int .i64 k3, .string s3, .int .i64 a3])).run Tryd.prog w = .ok (k1 == k3 && (s1.toList == s3.toList && a1 == a3)) w := by
  have hp : Tryd.prog.stoodInHeld 59 = false := by kernel_rfl
  have hf : Tryd.prog.underlying 59 = some (.struct (Tryd.prog.fieldsOf 59)) := by kernel_rfl
  have hl : (Tryd.prog.fieldsOf 59).toList = [{ name := "Kind", type := 3, offset := 0, embedded := false, tag := "", pkgPath := "", byteOffset := 0 }, { name := "Text", type := 9, offset := 1, embedded := false, tag := "", pkgPath := "", byteOffset := 8 }, { name := "At", type := 3, offset := 2, embedded := false, tag := "", pkgPath := "", byteOffset := 24 }] := by kernel_rfl
  rw [run_equalIn_agg w (d + 1) 59 _ _ hf hp, hl]
  have i3 := Tryd.isAgg3
  have i9 := Tryd.isAgg9
  have e3 : ∀ (a b : Int), (Op.equalIn (d + 1) 3 (.int .i64 a) (.int .i64 b)).run Tryd.prog w = .ok (a == b) w := fun a b => run_equalIn_int w d 3 _ _ a b Tryd.underlying3
  have e9 : ∀ (a b : ByteArray), (Op.equalIn (d + 1) 9 (.string a) (.string b)).run Tryd.prog w = .ok (a.toList == b.toList) w := fun a b => run_equalIn_string w d 9 a b Tryd.underlying9
  by_cases h1 : k1 = k3
  · by_cases h2 : s1.toList = s3.toList
    · by_cases h3 : a1 = a3
      · simp [Op.eqFields, part, i3, i9, e3, e9, Result.andThen, h1, h2, h3]
      · simp [Op.eqFields, part, i3, i9, e3, e9, Result.andThen, h1, h2, h3]
    · simp [Op.eqFields, part, i3, i9, e3, e9, Result.andThen, h1, h2]
  · simp [Op.eqFields, part, i3, i9, e3, e9, Result.andThen, h1]

set_option maxRecDepth 100000 in
theorem eq109 (d : Nat) (k1 k2 k3 k4 a1 a2 a3 a4 : Int) (s1 s2 s3 s4 : ByteArray) (w : World) : (Op.equalIn (d + 3) 109 (.agg #[.int .i64 k1, .string s1, .int .i64 a1, .int .i64 k2, .string s2, .int .i64 a2]) (.agg #[.int .i64 k3, .string s3, .int .i64 a3, .int .i64 k4, .string s4, .int .i64 a4])).run Tryd.prog w = .ok ((k1 == k3 && (s1.toList == s3.toList && a1 == a3)) && (k2 == k4 && (s2.toList == s4.toList && a2 == a4))) w := by
  have i59 : ∀ w, (isAgg 59).run Tryd.prog w = .ok true w := Tryd.isAgg59
  have z59 : ∀ w, (Go.sizeOf 59).run Tryd.prog w = .ok 3 w := Tryd.sizeOf59
  have h1 := eq59 d k1 a1 k3 a3 s1 s3 w
  have h2 := eq59 d k2 a2 k4 a4 s2 s4 w
  rw [show d + 3 = (d + 2) + 1 from rfl]
  generalize d + 2 = e at *
  simp only [Op.equalIn, Sem.run_bind, run_underlying Tryd.underlying109, Result.andThen_ok, z59]
  cases hb : (k1 == k3 && (s1.toList == s3.toList && a1 == a3)) with
  | true =>
    rw [hb] at h1
    cases hc : (k2 == k4 && (s2.toList == s4.toList && a2 == a4)) with
    | true =>
      rw [hc] at h2
      simp [Std.Legacy.Range.forIn_eq_forIn_range', Std.Legacy.Range.size, part, i59, z59, Result.andThen, h1, h2, List.range', List.forIn_cons]
    | false =>
      rw [hc] at h2
      simp [Std.Legacy.Range.forIn_eq_forIn_range', Std.Legacy.Range.size, part, i59, z59, Result.andThen, h1, h2, List.range', List.forIn_cons]
  | false =>
    rw [hb] at h1
    simp [Std.Legacy.Range.forIn_eq_forIn_range', Std.Legacy.Range.size, part, i59, z59, Result.andThen, h1, List.range', List.forIn_cons]
end Go.Proofs.YtokdoklkaojheaaDoor

namespace Go.Proofs.YtokdoklkaojheaaDoor
open Go.RowKit Go.Shelf
attribute [local go_sem] Oper.semAt_some

def twoTok (a b : Tk) : List Item → Bool
  | [x, y] => (decide ((x.kind : Int) = a.kind) && decide (x.text = a.text)) && (decide ((y.kind : Int) = b.kind) && decide (y.text = b.text))
  | _ => false
def pairB (a b : Tk) : Bool := match (toks (a.text ++ b.text)).find? badTok with
  | some _ => false
  | none => twoTok a b (toks (a.text ++ b.text))

def gotC : List Item → Array Value
  | [] => #[.int .i64 0, .string ⟨#[]⟩, .int .i64 0, .int .i64 0, .string ⟨#[]⟩, .int .i64 0]
  | [x] => #[.int .i64 x.kind, .string x.text, .int .i64 0, .int .i64 0, .string ⟨#[]⟩, .int .i64 0]
  | x :: y :: _ => #[.int .i64 x.kind, .string x.text, .int .i64 0, .int .i64 y.kind, .string y.text, .int .i64 0]

theorem blkf_own {β : Type} (B : Nat) (c : β → Array Value) (t : TypeId) (f : Nat × Nat) : Own (fun (s : β) W => W.heap[B]? = some (.cells (c s) t f)) := fun s X Y row hs hg hrow =>
  (hg.block B (Array.getElem?_eq_some_iff.1 hs).1 (fun e' => by obtain ⟨o, ho, hc⟩ := hrow B e'.symm; rw [hs] at ho; cases ho; cases hc)).trans hs
theorem heap_setCell_at {W : World} {b : Nat} {c : Array Value} {t : TypeId} {f : Nat × Nat} (k : Nat) (v : Value) (h : W.heap[b]? = some (.cells c t f)) : (W.setCell ⟨b, k, none⟩ v).heap[b]? = some (.cells (c.setIfInBounds k v) t f) := by
  simp [World.setCell, Array.getElem?_modify, h]

theorem boxed_other1 {W : World} {b : Nat} {t : TypeId} {u : Value} {g : Nat} (h : Boxed W b t u) (k : Nat) (x : Value) (hne : b ≠ g) : Boxed (W.setCell ⟨g, k, none⟩ x) b t u :=
  (Below.heap_setCell _ _ _ b hne).trans h

structure Put5 (W W' : World) (g nb : Nat) (C : Array Value) (v : Value) : Prop where
  others : KeepsOthers W W'
  got : W'.heap[g]? = some (.cells C 109 (0, 0))
  cnt : Boxed W' nb 3 v
  rest : ∀ k, k ≠ g → k ≠ nb → W'.heap[k]? = W.heap[k]?
  size : W'.heap.size = W.heap.size
  below : ∀ w0 B, Below B w0 W → B ≤ g → B ≤ nb → Below B w0 W'
theorem put5 (W : World) (g nb k0 k1 k2 : Nat) (a b c d v : Value) (C : Array Value) (v0 : Value) (hg : W.heap[g]? = some (.cells C 109 (0, 0))) (hn : Boxed W nb 3 v0) (hne : nb ≠ g) :
    Put5 W (((((W.setCell ⟨g, k0, none⟩ a).setCell ⟨g, k1, none⟩ b).setCell ⟨g, k2, none⟩ c).setCell ⟨g, k2, none⟩ d).setCell ⟨nb, 0, none⟩ v) g nb ((((C.setIfInBounds k0 a).setIfInBounds k1 b).setIfInBounds k2 c).setIfInBounds k2 d) v := by
  have h4 := heap_setCell_at k2 d (heap_setCell_at k2 c (heap_setCell_at k1 b (heap_setCell_at k0 a hg)))
  have n4 := boxed_other1 (boxed_other1 (boxed_other1 (boxed_other1 hn k0 a hne) k1 b hne) k2 c hne) k2 d hne
  refine ⟨((((KeepsOthers.setCell _ _ _).trans (KeepsOthers.setCell _ _ _)).trans (KeepsOthers.setCell _ _ _)).trans (KeepsOthers.setCell _ _ _)).trans (KeepsOthers.setCell _ _ _), ?_, n4.set v, fun k h1 h2 => ?_, by simp [World.setCell], fun w0 B h h1 h2 => ?_⟩
  · exact (Below.heap_setCell _ _ _ g (fun e => hne e.symm)).trans h4
  · exact (Below.heap_setCell _ _ _ k h2).trans ((Below.heap_setCell _ _ _ k h1).trans ((Below.heap_setCell _ _ _ k h1).trans ((Below.heap_setCell _ _ _ k h1).trans (Below.heap_setCell _ _ _ k h1))))
  · exact ((((h.setCell (p := ⟨g, k0, none⟩) h1 _).setCell (p := ⟨g, k1, none⟩) h1 _).setCell (p := ⟨g, k2, none⟩) h1 _).setCell (p := ⟨g, k2, none⟩) h1 _).setCell (p := ⟨nb, 0, none⟩) h2 _

set_option maxRecDepth 100000 in
set_option maxHeartbeats 8000000 in
theorem splits_in (n : Nat) (hn : 6 ≤ n) (ak : Int) (at_ : ByteArray) (bk : Int) (bt : ByteArray) (hs : at_.size + bt.size ≤ 65536) (hne : 0 < bt.size) (kb sb ab bb : Nat) (m : Int) (w : World) (hsc : IsScanner w kb sb) (hm : w.cell? ⟨2, 0, none⟩ = some (.int .i64 m)) :
    CallsIn Fence.wide n Tryd.prog 94 #[.agg #[.map (some kb), .map (some sb), .map (some ab), .map (some bb)], .agg #[.int .i64 ak, .string at_, .int .i64 0, .int .i64 bk, .string bt, .int .i64 0]] w fun e w' => e = .returned (.bool (pairB ⟨ak, at_, 0⟩ ⟨bk, bt, 0⟩)) ∧ Below w.heap.size w w' := by
  have h1 : 1 ≤ n := by omega
  have hcat : ¬ 9223372036854775807 < at_.size + bt.size := by omega
  have hsum : (at_ ++ bt).size ≤ 65536 := by rw [ByteArray.size_append]; exact hs
  refine callsIn_of_wp_marks Tryd.func94 rfl trivial ?_ rfl
  simp only [Tryd.ntmps94, List.size_toArray, List.length_cons, List.length_nil, Nat.reduceAdd, Nat.reduceSub, Array.replicate_succ, Array.replicate_zero, List.push_toArray, List.append_toArray, List.nil_append, List.cons_append]
  gi_wp2_with fail
  obtain ⟨w4, hw4⟩ : ∃ w4, (((((w.alloc (.cells #[.map (some kb), .map (some sb), .map (some ab), .map (some bb)] 99)).alloc (.cells #[.int .i64 ak, .string at_, .int .i64 0, .int .i64 bk, .string bt, .int .i64 0] 109)).alloc (.cells #[.bool false] 4)).alloc (.cells #[.int .i64 0, .string ⟨#[]⟩, .int .i64 0, .int .i64 0, .string ⟨#[]⟩, .int .i64 0] 109)).alloc (.cells #[.int .i64 0] 3)) = w4 := ⟨_, rfl⟩
  have hz4 : w4.heap.size = w.heap.size + 5 := by rw [← hw4]; simp
  have hB4 : Below w.heap.size w w4 := by rw [← hw4]; exact (((((Below.refl _ w).alloc (Nat.le_refl _) _).alloc (by simp) _).alloc (by simp; omega) _).alloc (by simp; omega) _).alloc (by simp; omega) _
  have P4 : w4.heap[w.heap.size + 1]? = some (.cells #[.int .i64 ak, .string at_, .int .i64 0, .int .i64 bk, .string bt, .int .i64 0] 109 (0, 0)) := by
    rw [← hw4]
    exact (heap_alloc_lt (by simp)).trans ((heap_alloc_lt (by simp)).trans ((heap_alloc_lt (by simp)).trans (heap_alloc_at' _ _ _ (by simp))))
  have R4 : Boxed w4 (w.heap.size + 1 + 1) 4 (.bool false) := by
    rw [← hw4]
    exact (heap_alloc_lt (by simp)).trans ((heap_alloc_lt (by simp)).trans (heap_alloc_at' _ _ _ (by simp)))
  have G4 : w4.heap[w.heap.size + 1 + 1 + 1]? = some (.cells (gotC []) 109 (0, 0)) := by
    rw [← hw4]
    exact (heap_alloc_lt (by simp)).trans (heap_alloc_at' _ _ _ (by simp))
  have N4 : Boxed w4 (w.heap.size + 1 + 1 + 1 + 1) 3 (.int .i64 0) := by
    rw [← hw4]
    exact heap_alloc_at' _ _ _ (by simp)
  rw [hw4]
  clear hw4
  refine ⟨trivial, (callsIn_wide.2 (places_any (at_ ++ bt) kb sb _)).mono ?_⟩; rintro e w9 ⟨rfl, rfl⟩
  have hw2 := World.block_lt_of_cell? _ _ hm
  have hm4 : w4.cell? ⟨2, 0, none⟩ = some (.int .i64 m) := (hB4.cell (p := ⟨2, 0, none⟩) hw2).trans hm
  have hsc4 := hsc.below hsc.lt.1 hsc.lt.2 hB4
  have hH : Held (at_ ++ bt) kb sb (w4.heap.size + 1) w4.heap.size m ((w4.alloc (.cells #[.map (some kb), .map (some sb)] 69)).alloc (.cells #[.string (at_ ++ bt)] 9)) := by
    refine ⟨(((below_two w4 _ _).cell (p := ⟨2, 0, none⟩) (by show 2 < w4.heap.size; omega)).trans hm4), hsc4.below hsc4.lt.1 hsc4.lt.2 (below_two w4 _ _), by simp [World.cell?_alloc_lt], by simp [World.cell?_alloc_lt], by simp [World.cell?_alloc_lt]⟩
  have hB0 := hB4.trans ((below_two w4 (.cells #[.map (some kb), .map (some sb)] 69) (.cells #[.string (at_ ++ bt)] 9)).mono hB4.size)
  have hsz : ((w4.alloc (.cells #[.map (some kb), .map (some sb)] 69)).alloc (.cells #[.string (at_ ++ bt)] 9)).heap.size = w4.heap.size + 2 := by simp
  have P0 : ((w4.alloc (.cells #[.map (some kb), .map (some sb)] 69)).alloc (.cells #[.string (at_ ++ bt)] 9)).heap[w.heap.size + 1]? = some (.cells #[.int .i64 ak, .string at_, .int .i64 0, .int .i64 bk, .string bt, .int .i64 0] 109 (0, 0)) := (heap_alloc_lt (by simp; omega)).trans ((heap_alloc_lt (by omega)).trans P4)
  have G0 : ((w4.alloc (.cells #[.map (some kb), .map (some sb)] 69)).alloc (.cells #[.string (at_ ++ bt)] 9)).heap[w.heap.size + 1 + 1 + 1]? = some (.cells (gotC []) 109 (0, 0)) := (heap_alloc_lt (by simp; omega)).trans ((heap_alloc_lt (by omega)).trans G4)
  have R0 := (R4.alloc (.cells #[.map (some kb), .map (some sb)] 69)).alloc (.cells #[.string (at_ ++ bt)] 9)
  have N0 := (N4.alloc (.cells #[.map (some kb), .map (some sb)] 69)).alloc (.cells #[.string (at_ ++ bt)] 9)
  obtain ⟨W0, hW0⟩ : ∃ W0, (w4.alloc (.cells #[.map (some kb), .map (some sb)] 69)).alloc (.cells #[.string (at_ ++ bt)] 9) = W0 := ⟨_, rfl⟩
  rw [hW0] at hH hB0 hsz P0 G0 R0 N0 ⊢
  rw [hz4] at hH hsz
  clear hW0 P4 G4 R4 N4 hm4
  have hsl := hsc.lt
  clear hsc hsc4 hB4
  gi_wp2_with fail
  have hKl : ∀ b ∈ [2, kb, sb, w.heap.size + 5 + 1, w.heap.size + 5], b < W0.heap.size := by
    intro b hb; simp only [List.mem_cons, List.not_mem_nil, or_false] at hb; omega
  refine wpIn_rangeFunc_ownH rfl h1 (gf := 71) (lb := #[.pointer (some ⟨w.heap.size + 5 + 1, 0, none⟩), .pointer (some ⟨w.heap.size + 5, 0, none⟩)]) rfl trivial (enters_of Tryd.func71 (by kernel_rfl) rfl)
    (places_stops (n - 1) (by omega) (at_ ++ bt) hsum kb sb (w.heap.size + 5 + 1) (w.heap.size + 5) m W0 hH) (fun h k => h.trans k) (Kept.putObj hKl) (Below.refl _ _) (fun _ => rfl)
    (fun pre W => ((((Boxed W (w.heap.size + 1 + 1 + 1 + 1) 3 (.int .i64 pre.length) ∧ (pre.length ≤ 2 ∧ ∀ x ∈ pre, x.err = 0)) ∧ Boxed W (w.heap.size + 1 + 1) 4 (.bool false)) ∧ W.heap[w.heap.size + 1]? = some (.cells #[.int .i64 ak, .string at_, .int .i64 0, .int .i64 bk, .string bt, .int .i64 0] 109 (0, 0))) ∧ W.heap[w.heap.size + 1 + 1 + 1]? = some (.cells (gotC pre) 109 (0, 0))) ∧ (Below w.heap.size w W ∧ W0.heap.size ≤ W.heap.size))
    (fun c pre W => (c = .ret ∧ ((∃ x ∈ pre, x.err ≠ 0) ∨ 2 < pre.length) ∧ Boxed W (w.heap.size + 1 + 1) 4 (.bool false)) ∧ Below w.heap.size w W)
    (OwnFrom.and (OwnFrom.and (OwnFrom.and (OwnFrom.and (OwnFrom.and (Own.from (boxed_own _ _ (fun pre : List Item => .int .i64 pre.length)) _) (Own.from (pure_own _) _)) (Own.from (boxed_own _ _ _) _)) (Own.from (blk_own _ _ _ _) _)) (Own.from (blkf_own _ gotC _ _) _)) (OwnFrom.and (ownFrom_below (Nat.le_refl _) (by omega)) (fun _ A B row hs hg hr => Nat.le_trans hs hg.size)))
    (fun c => OwnFrom.and (fun _ A B row hs hg hr => by obtain ⟨h1, h2, h5⟩ := hs; exact ⟨h1, h2, Boxed.kept' h5 hg hr⟩) (ownFrom_below (Nat.le_refl _) (by omega)))
    ⟨⟨⟨⟨⟨N0, by simp⟩, R0⟩, P0⟩, G0⟩, hB0, Nat.le_refl _⟩
    (fun x a' W => ∃ Bx, w.heap.size + 1 + 1 + 1 + 1 < Bx ∧ W.heap[Bx]? = some (.cells #[.int .i64 x.kind, .string x.text, .int .i64 x.start, .int .i64 x.stop] 73 (0, 0)) ∧ a' = { tmps := #[.agg #[.map (some kb), .map (some sb), .map (some ab), .map (some bb)], .agg #[.int .i64 ak, .string at_, .int .i64 0, .int .i64 bk, .string bt, .int .i64 0], .pointer (some ⟨w.heap.size, 0, none⟩), .pointer (some ⟨w.heap.size + 1, 0, none⟩), .pointer (some ⟨w.heap.size + 1 + 1, 0, none⟩), .pointer (some ⟨w.heap.size + 1 + 1 + 1, 0, none⟩), .pointer (some ⟨w.heap.size + 1 + 1 + 1 + 1, 0, none⟩), .pointer (some ⟨Bx, 0, none⟩), .int .i64 x.err, .pointer (some ⟨w.heap.size, 0, none⟩), .agg #[.map (some kb), .map (some sb)], .pointer (some ⟨w.heap.size + 1, 0, none⟩), .pointer (some ⟨w.heap.size + 1, 1, none⟩), .string at_, .pointer (some ⟨w.heap.size + 1, 3, none⟩), .pointer (some ⟨w.heap.size + 1, 4, none⟩), .string bt, .string (at_ ++ bt), .func (.func 71) #[] #[.pointer (some ⟨w.heap.size + 5 + 1, 0, none⟩), .pointer (some ⟨w.heap.size + 5, 0, none⟩)], .agg #[.int .i64 x.kind, .string x.text, .int .i64 x.start, .int .i64 x.stop], .int .i64 x.err, undef, undef, undef, undef, undef, undef, undef, undef, undef, undef, undef, undef, undef, undef, undef, undef, undef, undef], defers := [] })
    (fun x a' _ X Y row hs hg hr => by obtain ⟨Bx, h1, h2, h3⟩ := hs; exact ⟨Bx, h1, blk_own Bx _ _ _ () X Y row h2 hg (fun r e => (hr r e).2), h3⟩)
    ?assign ?body ?done ?stop
  case assign =>
    rintro l pre x W K ⟨⟨⟨⟨⟨C0, hG⟩, C1⟩, C2⟩, C3⟩, hB, hW⟩ hK
    simp only [encI]
    gi_wp2
    exact hK _ _ ((KeepsOthers.alloc _ _).from _) (Kept.of_below ((Below.refl _ W).alloc (Nat.le_refl _) _) (fun b hb => Nat.lt_of_lt_of_le (hKl b hb) hW)) ⟨⟨⟨⟨⟨C0.alloc _, hG⟩, C1.alloc _⟩, (heap_alloc_lt (Array.getElem?_eq_some_iff.1 C2).1).trans C2⟩, (heap_alloc_lt (Array.getElem?_eq_some_iff.1 C3).1).trans C3⟩, hB.alloc hB.size _, by simp; omega⟩ ⟨W.heap.size, by have := C0.lt; omega, heap_alloc_at _ _, rfl⟩
  case body =>
    rintro l pre x a' W hl _ ⟨⟨⟨⟨⟨C0, hG⟩, C1⟩, C2⟩, C3⟩, hB, hW⟩ ⟨Bx, hBx, hX, rfl⟩ hlt
    have x0 : W.cell? ⟨Bx, 0, none⟩ = some (.int .i64 x.kind) := by simp [World.cell?, hX]
    have x1 : W.cell? ⟨Bx, 1, none⟩ = some (.string x.text) := by simp [World.cell?, hX]
    have x2 : W.cell? ⟨Bx, 2, none⟩ = some (.int .i64 x.start) := by simp [World.cell?, hX]
    have c0 := C0.cell
    have c1 := C1.cell
    have f0 := C0.frozen
    have f1 := C1.frozen
    have Hsz := Lib.hid hsz; clear hsz
    have hV : KeepsFrom W0.heap.size W (W.setCell ⟨w.heap.size + 1 + 1, 0, none⟩ (.bool false)) ∧ Boxed (W.setCell ⟨w.heap.size + 1 + 1, 0, none⟩ (.bool false)) (w.heap.size + 1 + 1) 4 (.bool false) ∧ Below w.heap.size w (W.setCell ⟨w.heap.size + 1 + 1, 0, none⟩ (.bool false)) :=
      ⟨(KeepsOthers.setCell _ _ _).from _, C1.set (.bool false), hB.setCell (p := ⟨w.heap.size + 1 + 1, 0, none⟩) (by show w.heap.size ≤ w.heap.size + 1 + 1; omega) _⟩
    have HV := Lib.hid hV; clear hV
    by_cases he : x.err = 0
    · have d0 : (x.err != 0) = false := by simpa using he
      have g0 : ∀ k, W.frozen? ⟨w.heap.size + 1 + 1 + 1, k, none⟩ = false := by intro k; simp [World.frozen?, C3]
      obtain ⟨hl2, hok⟩ := hG
      rcases pre with _ | ⟨p, _ | ⟨q, _ | ⟨r, ps⟩⟩⟩
      · have c0' : W.cell? ⟨w.heap.size + 1 + 1 + 1 + 1, 0, none⟩ = some (.int .i64 0) := c0
        have e0 : W.cell? ⟨w.heap.size + 1 + 1 + 1, 0, none⟩ = some (.int .i64 0) := by simp [World.cell?, C3, gotC]
        have e1 : W.cell? ⟨w.heap.size + 1 + 1 + 1, 1, none⟩ = some (.string ⟨#[]⟩) := by simp [World.cell?, C3, gotC]
        have e2 : W.cell? ⟨w.heap.size + 1 + 1 + 1, 2, none⟩ = some (.int .i64 0) := by simp [World.cell?, C3, gotC]
        have hP := put5 W (w.heap.size + 1 + 1 + 1) (w.heap.size + 1 + 1 + 1 + 1) 0 1 2 (.int .i64 x.kind) (.string x.text) (.int .i64 x.start) (.int .i64 0) (.int .i64 1) _ _ C3 C0 (by omega)
        have hfin : ∀ W', Put5 W W' (w.heap.size + 1 + 1 + 1) (w.heap.size + 1 + 1 + 1 + 1) (gotC (([] : List Item) ++ [x])) (.int .i64 1) → KeepsFrom W0.heap.size W W' ∧ Kept [2, kb, sb, w.heap.size + 5 + 1, w.heap.size + 5] W W' ∧ ((((Boxed W' (w.heap.size + 1 + 1 + 1 + 1) 3 (.int .i64 (([] : List Item) ++ [x]).length) ∧ ((([] : List Item) ++ [x]).length ≤ 2 ∧ ∀ y ∈ ([] : List Item) ++ [x], y.err = 0)) ∧ Boxed W' (w.heap.size + 1 + 1) 4 (.bool false)) ∧ W'.heap[w.heap.size + 1]? = some (.cells #[.int .i64 ak, .string at_, .int .i64 0, .int .i64 bk, .string bt, .int .i64 0] 109 (0, 0))) ∧ W'.heap[w.heap.size + 1 + 1 + 1]? = some (.cells (gotC (([] : List Item) ++ [x])) 109 (0, 0))) ∧ (Below w.heap.size w W' ∧ W0.heap.size ≤ W'.heap.size) := by
          intro W' h
          refine ⟨h.others.from _, ⟨by rw [h.size]; exact Nat.le_refl _, fun b hb => ?_, fun b c f hb => ?_⟩, ⟨⟨⟨⟨h.cnt, by simp, ?_⟩, (h.rest _ (by omega) (by omega)).trans C1⟩, (h.rest _ (by omega) (by omega)).trans C2⟩, h.got⟩, h.below _ _ hB (by omega) (by omega), by rw [h.size]; exact hW⟩
          · simp only [List.mem_cons, List.not_mem_nil, or_false] at hb
            exact h.rest b (by omega) (by omega)
          · refine (h.rest b ?_ ?_).trans hb
            · rintro rfl; rw [hb] at C3; cases C3
            · rintro rfl
              have h0 : W.heap[w.heap.size + 1 + 1 + 1 + 1]? = some (.cells #[.int .i64 (([] : List Item).length : Nat)] 3 (0, 0)) := C0
              rw [hb] at h0; cases h0
          · intro y hy
            rcases List.mem_append.1 hy with h1 | h1
            · exact hok y h1
            · rw [List.mem_singleton.1 h1]; exact he
        have HF := Lib.hid (hfin _ hP)
        clear hfin hP c0 hX C0 C1 C2 C3 hB
        gi_wp2_with fail
        exact HF.out
      · have c0' : W.cell? ⟨w.heap.size + 1 + 1 + 1 + 1, 0, none⟩ = some (.int .i64 1) := c0
        have e0 : W.cell? ⟨w.heap.size + 1 + 1 + 1, 3, none⟩ = some (.int .i64 0) := by simp [World.cell?, C3, gotC]
        have e1 : W.cell? ⟨w.heap.size + 1 + 1 + 1, 4, none⟩ = some (.string ⟨#[]⟩) := by simp [World.cell?, C3, gotC]
        have e2 : W.cell? ⟨w.heap.size + 1 + 1 + 1, 5, none⟩ = some (.int .i64 0) := by simp [World.cell?, C3, gotC]
        have hP := put5 W (w.heap.size + 1 + 1 + 1) (w.heap.size + 1 + 1 + 1 + 1) 3 4 5 (.int .i64 x.kind) (.string x.text) (.int .i64 x.start) (.int .i64 0) (.int .i64 2) _ _ C3 C0 (by omega)
        have hfin : ∀ W', Put5 W W' (w.heap.size + 1 + 1 + 1) (w.heap.size + 1 + 1 + 1 + 1) (gotC ([p] ++ [x])) (.int .i64 2) → KeepsFrom W0.heap.size W W' ∧ Kept [2, kb, sb, w.heap.size + 5 + 1, w.heap.size + 5] W W' ∧ ((((Boxed W' (w.heap.size + 1 + 1 + 1 + 1) 3 (.int .i64 ([p] ++ [x]).length) ∧ (([p] ++ [x]).length ≤ 2 ∧ ∀ y ∈ [p] ++ [x], y.err = 0)) ∧ Boxed W' (w.heap.size + 1 + 1) 4 (.bool false)) ∧ W'.heap[w.heap.size + 1]? = some (.cells #[.int .i64 ak, .string at_, .int .i64 0, .int .i64 bk, .string bt, .int .i64 0] 109 (0, 0))) ∧ W'.heap[w.heap.size + 1 + 1 + 1]? = some (.cells (gotC ([p] ++ [x])) 109 (0, 0))) ∧ (Below w.heap.size w W' ∧ W0.heap.size ≤ W'.heap.size) := by
          intro W' h
          refine ⟨h.others.from _, ⟨by rw [h.size]; exact Nat.le_refl _, fun b hb => ?_, fun b c f hb => ?_⟩, ⟨⟨⟨⟨h.cnt, by simp, ?_⟩, (h.rest _ (by omega) (by omega)).trans C1⟩, (h.rest _ (by omega) (by omega)).trans C2⟩, h.got⟩, h.below _ _ hB (by omega) (by omega), by rw [h.size]; exact hW⟩
          · simp only [List.mem_cons, List.not_mem_nil, or_false] at hb
            exact h.rest b (by omega) (by omega)
          · refine (h.rest b ?_ ?_).trans hb
            · rintro rfl; rw [hb] at C3; cases C3
            · rintro rfl
              have h0 : W.heap[w.heap.size + 1 + 1 + 1 + 1]? = some (.cells #[.int .i64 (([p] : List Item).length : Nat)] 3 (0, 0)) := C0
              rw [hb] at h0; cases h0
          · intro y hy
            rcases List.mem_append.1 hy with h1 | h1
            · exact hok y h1
            · rw [List.mem_singleton.1 h1]; exact he
        have HF := Lib.hid (hfin _ hP)
        clear hfin hP c0 hX C0 C1 C2 C3 hB
        gi_wp2_with fail
        exact HF.out
      · have c0' : W.cell? ⟨w.heap.size + 1 + 1 + 1 + 1, 0, none⟩ = some (.int .i64 2) := c0
        clear c0 hX C0 C1 C2 C3 hB
        gi_wp2_with fail
        exact ⟨HV.out.1, ⟨rfl, .inr (by simp), HV.out.2.1⟩, HV.out.2.2⟩
      · simp at hl2
    · have d0 : (x.err != 0) = true := by simpa using he
      clear hX C0 C1 C2 C3 hB
      gi_wp2_with fail
      all_goals exact ⟨HV.out.1, ⟨rfl, .inl ⟨x, by simp, he⟩, HV.out.2.1⟩, HV.out.2.2⟩
  case done =>
    rintro D xs W hD rfl ⟨⟨⟨⟨⟨C0, hG⟩, C1⟩, C2⟩, C3⟩, hB, hW⟩ hK
    have Hsz := Lib.hid hsz; clear hsz
    have hnb : (toks (at_ ++ bt)).find? badTok = none := find_ok hG.2
    have hsp : pairB ⟨ak, at_, 0⟩ ⟨bk, bt, 0⟩ = twoTok ⟨ak, at_, 0⟩ ⟨bk, bt, 0⟩ (toks (at_ ++ bt)) := by unfold pairB; simp only; rw [hnb]
    have hfin : ∀ v, v = pairB ⟨ak, at_, 0⟩ ⟨bk, bt, 0⟩ → ∀ W', W' = W.setCell ⟨w.heap.size + 1 + 1, 0, none⟩ (.bool v) → W'.heap[D]? = some (.deferred (some [])) ∧ (W'.putObj D (.deferred none)).cell? ⟨w.heap.size + 1 + 1, 0, none⟩ = some (.bool (pairB ⟨ak, at_, 0⟩ ⟨bk, bt, 0⟩)) ∧ Below w.heap.size w (W'.putObj D (.deferred none)) := by
      rintro v rfl W' rfl
      have hK' : (W.setCell ⟨w.heap.size + 1 + 1, 0, none⟩ (.bool (pairB ⟨ak, at_, 0⟩ ⟨bk, bt, 0⟩))).heap[D]? = some (.deferred (some [])) := (KeepsOthers.setCell _ _ _).same D _ hK rfl
      have hbe := hB.setCell (p := ⟨w.heap.size + 1 + 1, 0, none⟩) (by show w.heap.size ≤ w.heap.size + 1 + 1; omega) (.bool (pairB ⟨ak, at_, 0⟩ ⟨bk, bt, 0⟩))
      exact ⟨hK', cell_shut hK' (C1.set _), hbe.trans (belowK_b (w := w) (Nat.le_refl _) _ D _ (.deferred none) (by have := Hsz.out; omega) hK' rfl rfl)⟩
    have c1 := C1.cell
    have f1 := C1.frozen
    have p0 : W.cell? ⟨w.heap.size + 1, 0, none⟩ = some (.int .i64 ak) := by simp [World.cell?, C2]
    have p1 : W.cell? ⟨w.heap.size + 1, 1, none⟩ = some (.string at_) := by simp [World.cell?, C2]
    have p2 : W.cell? ⟨w.heap.size + 1, 2, none⟩ = some (.int .i64 0) := by simp [World.cell?, C2]
    have p3 : W.cell? ⟨w.heap.size + 1, 3, none⟩ = some (.int .i64 bk) := by simp [World.cell?, C2]
    have p4 : W.cell? ⟨w.heap.size + 1, 4, none⟩ = some (.string bt) := by simp [World.cell?, C2]
    have p5 : W.cell? ⟨w.heap.size + 1, 5, none⟩ = some (.int .i64 0) := by simp [World.cell?, C2]
    have HF := Lib.hid hfin; clear hfin
    have hnt : ¬ ([] : List UInt8) = bt.toList := by
      rw [toList_eq']; intro e
      have := congrArg List.length e
      simp at this; omega
    match hm : toks (at_ ++ bt), hG.1 with
    | [], _ =>
      rw [hm] at C3 hsp
      have g0 : W.cell? ⟨w.heap.size + 1 + 1 + 1, 0, none⟩ = some (.int .i64 0) := by simp [World.cell?, C3, gotC]
      have g1 : W.cell? ⟨w.heap.size + 1 + 1 + 1, 1, none⟩ = some (.string ⟨#[]⟩) := by simp [World.cell?, C3, gotC]
      have g2 : W.cell? ⟨w.heap.size + 1 + 1 + 1, 2, none⟩ = some (.int .i64 0) := by simp [World.cell?, C3, gotC]
      have g3 : W.cell? ⟨w.heap.size + 1 + 1 + 1, 3, none⟩ = some (.int .i64 0) := by simp [World.cell?, C3, gotC]
      have g4 : W.cell? ⟨w.heap.size + 1 + 1 + 1, 4, none⟩ = some (.string ⟨#[]⟩) := by simp [World.cell?, C3, gotC]
      have g5 : W.cell? ⟨w.heap.size + 1 + 1 + 1, 5, none⟩ = some (.int .i64 0) := by simp [World.cell?, C3, gotC]
      have hb : (((0 : Int) == ak && ((⟨#[]⟩ : ByteArray).toList == at_.toList && (0 : Int) == 0)) && ((0 : Int) == bk && ((⟨#[]⟩ : ByteArray).toList == bt.toList && (0 : Int) == 0))) = pairB ⟨ak, at_, 0⟩ ⟨bk, bt, 0⟩ := by
        rw [hsp]
        have : (([] : List UInt8) == bt.toList) = false := by rw [beq_eq_false_iff_ne]; exact hnt
        have e0 : (⟨#[]⟩ : ByteArray).toList = [] := by rw [toList_eq']
        rw [e0, this]
        simp [twoTok]
      have hq : (Op.equalIn 10000 109 (.agg #[.int .i64 0, .string ⟨#[]⟩, .int .i64 0, .int .i64 0, .string ⟨#[]⟩, .int .i64 0]) (.agg #[.int .i64 ak, .string at_, .int .i64 0, .int .i64 bk, .string bt, .int .i64 0])).run Tryd.prog W = .ok (pairB ⟨ak, at_, 0⟩ ⟨bk, bt, 0⟩) W := (eq109 9997 (0) (0) ak bk 0 0 0 0 (⟨#[]⟩) (⟨#[]⟩) at_ bt W).trans (by rw [← hb])
      have HFr := Lib.hid (HF.out _ rfl _ rfl)
      obtain ⟨r, hr⟩ : ∃ r, pairB ⟨ak, at_, 0⟩ ⟨bk, bt, 0⟩ = r := ⟨_, rfl⟩
      rw [hr] at HFr hq
      have Hr := Lib.hid hr
      clear hm hG C0 C1 C2 C3 hB hnb hb hr hsp HF
      gi_wp2_with fail
      have d1 := HFr.out.2.1
      refine ⟨by simp, .inl ⟨_, _, rfl, run_takeDeferred HFr.out.1, ?_⟩⟩
      refine ⟨.bool r, by simp [results, Tryd.results94, go_sem, d1], ?_, HFr.out.2.2⟩
      rw [Hr.out]
    | [x], _ =>
      rw [hm] at C3 hsp
      have g0 : W.cell? ⟨w.heap.size + 1 + 1 + 1, 0, none⟩ = some (.int .i64 x.kind) := by simp [World.cell?, C3, gotC]
      have g1 : W.cell? ⟨w.heap.size + 1 + 1 + 1, 1, none⟩ = some (.string x.text) := by simp [World.cell?, C3, gotC]
      have g2 : W.cell? ⟨w.heap.size + 1 + 1 + 1, 2, none⟩ = some (.int .i64 0) := by simp [World.cell?, C3, gotC]
      have g3 : W.cell? ⟨w.heap.size + 1 + 1 + 1, 3, none⟩ = some (.int .i64 0) := by simp [World.cell?, C3, gotC]
      have g4 : W.cell? ⟨w.heap.size + 1 + 1 + 1, 4, none⟩ = some (.string ⟨#[]⟩) := by simp [World.cell?, C3, gotC]
      have g5 : W.cell? ⟨w.heap.size + 1 + 1 + 1, 5, none⟩ = some (.int .i64 0) := by simp [World.cell?, C3, gotC]
      have hb : (((x.kind : Int) == ak && ((x.text : ByteArray).toList == at_.toList && (0 : Int) == 0)) && ((0 : Int) == bk && ((⟨#[]⟩ : ByteArray).toList == bt.toList && (0 : Int) == 0))) = pairB ⟨ak, at_, 0⟩ ⟨bk, bt, 0⟩ := by
        rw [hsp]
        have : (([] : List UInt8) == bt.toList) = false := by rw [beq_eq_false_iff_ne]; exact hnt
        have e0 : (⟨#[]⟩ : ByteArray).toList = [] := by rw [toList_eq']
        rw [e0, this]
        simp [twoTok]
      have hq : (Op.equalIn 10000 109 (.agg #[.int .i64 x.kind, .string x.text, .int .i64 0, .int .i64 0, .string ⟨#[]⟩, .int .i64 0]) (.agg #[.int .i64 ak, .string at_, .int .i64 0, .int .i64 bk, .string bt, .int .i64 0])).run Tryd.prog W = .ok (pairB ⟨ak, at_, 0⟩ ⟨bk, bt, 0⟩) W := (eq109 9997 (x.kind) (0) ak bk 0 0 0 0 (x.text) (⟨#[]⟩) at_ bt W).trans (by rw [← hb])
      have HFr := Lib.hid (HF.out _ rfl _ rfl)
      obtain ⟨r, hr⟩ : ∃ r, pairB ⟨ak, at_, 0⟩ ⟨bk, bt, 0⟩ = r := ⟨_, rfl⟩
      rw [hr] at HFr hq
      have Hr := Lib.hid hr
      clear hm hG C0 C1 C2 C3 hB hnb hb hr hsp HF
      gi_wp2_with fail
      have d1 := HFr.out.2.1
      refine ⟨by simp, .inl ⟨_, _, rfl, run_takeDeferred HFr.out.1, ?_⟩⟩
      refine ⟨.bool r, by simp [results, Tryd.results94, go_sem, d1], ?_, HFr.out.2.2⟩
      rw [Hr.out]
    | [x, y], _ =>
      rw [hm] at C3 hsp
      have g0 : W.cell? ⟨w.heap.size + 1 + 1 + 1, 0, none⟩ = some (.int .i64 x.kind) := by simp [World.cell?, C3, gotC]
      have g1 : W.cell? ⟨w.heap.size + 1 + 1 + 1, 1, none⟩ = some (.string x.text) := by simp [World.cell?, C3, gotC]
      have g2 : W.cell? ⟨w.heap.size + 1 + 1 + 1, 2, none⟩ = some (.int .i64 0) := by simp [World.cell?, C3, gotC]
      have g3 : W.cell? ⟨w.heap.size + 1 + 1 + 1, 3, none⟩ = some (.int .i64 y.kind) := by simp [World.cell?, C3, gotC]
      have g4 : W.cell? ⟨w.heap.size + 1 + 1 + 1, 4, none⟩ = some (.string y.text) := by simp [World.cell?, C3, gotC]
      have g5 : W.cell? ⟨w.heap.size + 1 + 1 + 1, 5, none⟩ = some (.int .i64 0) := by simp [World.cell?, C3, gotC]
      have hb : (((x.kind : Int) == ak && ((x.text : ByteArray).toList == at_.toList && (0 : Int) == 0)) && ((y.kind : Int) == bk && ((y.text : ByteArray).toList == bt.toList && (0 : Int) == 0))) = pairB ⟨ak, at_, 0⟩ ⟨bk, bt, 0⟩ := by
        rw [hsp]
        have e1 : ∀ u v : ByteArray, (u.toList == v.toList) = decide (u = v) := by
          intro u v
          by_cases h : u = v
          · simp [h]
          · rw [decide_eq_false h, beq_eq_false_iff_ne]; exact fun e => h (toList_inj e)
        have e2 : ∀ u v : Int, (u == v) = decide (u = v) := by intro u v; by_cases h : u = v <;> simp [h]
        rw [e1, e1, e2 _ ak, e2 _ bk]
        rw [show ((0 : Int) == 0) = true from rfl, Bool.and_true, Bool.and_true]
        rfl
      have hq : (Op.equalIn 10000 109 (.agg #[.int .i64 x.kind, .string x.text, .int .i64 0, .int .i64 y.kind, .string y.text, .int .i64 0]) (.agg #[.int .i64 ak, .string at_, .int .i64 0, .int .i64 bk, .string bt, .int .i64 0])).run Tryd.prog W = .ok (pairB ⟨ak, at_, 0⟩ ⟨bk, bt, 0⟩) W := (eq109 9997 (x.kind) (y.kind) ak bk 0 0 0 0 (x.text) (y.text) at_ bt W).trans (by rw [← hb])
      have HFr := Lib.hid (HF.out _ rfl _ rfl)
      obtain ⟨r, hr⟩ : ∃ r, pairB ⟨ak, at_, 0⟩ ⟨bk, bt, 0⟩ = r := ⟨_, rfl⟩
      rw [hr] at HFr hq
      have Hr := Lib.hid hr
      clear hm hG C0 C1 C2 C3 hB hnb hb hr hsp HF
      gi_wp2_with fail
      have d1 := HFr.out.2.1
      refine ⟨by simp, .inl ⟨_, _, rfl, run_takeDeferred HFr.out.1, ?_⟩⟩
      refine ⟨.bool r, by simp [results, Tryd.results94, go_sem, d1], ?_, HFr.out.2.2⟩
      rw [Hr.out]
    | x :: y :: z :: zs, h => simp at h
  case stop =>
    rintro D c pre W hD hpre ⟨⟨rfl, hst, C1⟩, hB⟩ hK
    have hr : pairB ⟨ak, at_, 0⟩ ⟨bk, bt, 0⟩ = false := by
      unfold pairB
      cases hf : (toks (at_ ++ bt)).find? badTok with
      | some y => rfl
      | none =>
        have hall := List.find?_eq_none.1 hf
        rcases hst with ⟨x, hx, he⟩ | hl
        · exact absurd (hall x (hpre.subset hx)) (by simp [badTok, he])
        · have h3 : 2 < (toks (at_ ++ bt)).length := Nat.lt_of_lt_of_le hl hpre.length_le
          match hm : toks (at_ ++ bt), h3 with
          | x :: y :: z :: zs, _ => rfl
    have Hsz := Lib.hid hsz; clear hsz
    gi_wp2
    have d1 := cell_shut hK C1
    have hbl := hB.trans (belowK_b (w := w) (Nat.le_refl _) _ D _ (.deferred none) (by have := Hsz.out; omega) hK rfl rfl)
    refine ⟨by simp, .inl ⟨_, _, rfl, run_takeDeferred hK, ?_⟩⟩
    refine ⟨.bool false, by simp [results, Tryd.results94, go_sem, d1], ?_, hbl⟩
    rw [hr]
end Go.Proofs.YtokdoklkaojheaaDoor

namespace Go.Proofs.YtokdoklkaojheaaDoor
open Go.RowKit Go.Shelf

def afterL : List (List UInt8) := [[40], [91], [35], [33], [46]]
def beforeL : List (List UInt8) := [[41], [93], [44], [59], [46], [63], [91]]
def dotNum (a b : Tk) : Bool := a.text.toList == [46] && (b.kind == 2 || b.kind == 3)
def freeAB (a b : Tk) : Bool := !decide (a.text.data.toList ∈ afterL) && !decide (b.text.data.toList ∈ beforeL)
def spcB (a b : Tk) : Bool := dotNum a b || (freeAB a b || !pairB a b)

theorem splits_any (ak : Int) (at_ : ByteArray) (bk : Int) (bt : ByteArray) (hs : at_.size + bt.size ≤ 65536) (hne : 0 < bt.size) (kb sb ab bb : Nat) (m : Int) (w : World) (hsc : IsScanner w kb sb) (hm : w.cell? ⟨2, 0, none⟩ = some (.int .i64 m)) :
    Calls Tryd.prog 94 #[.agg #[.map (some kb), .map (some sb), .map (some ab), .map (some bb)], .agg #[.int .i64 ak, .string at_, .int .i64 0, .int .i64 bk, .string bt, .int .i64 0]] w fun e w' => e = .returned (.bool (pairB ⟨ak, at_, 0⟩ ⟨bk, bt, 0⟩)) ∧ Below w.heap.size w w' :=
  callsIn_wide.1 (splits_in 6 (by omega) ak at_ bk bt hs hne kb sb ab bb m w hsc hm)

set_option maxHeartbeats 4000000 in
set_option maxRecDepth 100000 in
theorem spaced_any (ak : Int) (at_ : ByteArray) (bk : Int) (bt : ByteArray) (hs : at_.size + bt.size ≤ 65536) (hne : 0 < bt.size) (kb sb ab bb : Nat) (m : Int) (w : World) (hsc : IsScanner w kb sb)
    (ha : w.heap[ab]? = some (setObjOf afterL)) (hb : w.heap[bb]? = some (setObjOf beforeL)) (hm : w.cell? ⟨2, 0, none⟩ = some (.int .i64 m)) :
    Calls Tryd.prog 61 #[.agg #[.map (some kb), .map (some sb), .map (some ab), .map (some bb)], .agg #[.int .i64 ak, .string at_, .int .i64 0, .int .i64 bk, .string bt, .int .i64 0]] w fun e w' => e = .returned (.bool (spcB ⟨ak, at_, 0⟩ ⟨bk, bt, 0⟩)) ∧ Below w.heap.size w w' := by
  have C := Lib.hid (fun w3 (h : Below w.heap.size w w3) => splits_any ak at_ bk bt hs hne kb sb ab bb m w3 (hsc.below hsc.lt.1 hsc.lt.2 h) ((h.cell (p := ⟨2, 0, none⟩) (World.block_lt_of_cell? _ _ hm)).trans hm))
  have LA := Lib.hid (fun w3 (h : Below w.heap.size w w3) => run_look at_ ab afterL w3 ((h.block ab (Array.getElem?_eq_some_iff.1 ha).1).trans ha))
  have LB := Lib.hid (fun w3 (h : Below w.heap.size w w3) => run_look bt bb beforeL w3 ((h.block bb (Array.getElem?_eq_some_iff.1 hb).1).trans hb))
  clear hs hne hsc ha hb hm
  have hres : spcB ⟨ak, at_, 0⟩ ⟨bk, bt, 0⟩ = ((at_.toList == [46] && (bk == 2 || bk == 3)) || ((!decide (at_.data.toList ∈ afterL) && !decide (bt.data.toList ∈ beforeL)) || !pairB ⟨ak, at_, 0⟩ ⟨bk, bt, 0⟩)) := rfl
  rw [hres]
  obtain ⟨A, hA⟩ : ∃ A, decide (at_.data.toList ∈ afterL) = A := ⟨_, rfl⟩
  obtain ⟨B, hB⟩ : ∃ B, decide (bt.data.toList ∈ beforeL) = B := ⟨_, rfl⟩
  obtain ⟨S, hS⟩ : ∃ S, pairB ⟨ak, at_, 0⟩ ⟨bk, bt, 0⟩ = S := ⟨_, rfl⟩
  rw [hA] at LA ⊢
  rw [hB] at LB ⊢
  rw [hS] at C ⊢
  obtain ⟨d, hd⟩ : ∃ d, (at_.toList == [46]) = d := ⟨_, rfl⟩
  obtain ⟨k2, hk2⟩ : ∃ k, (bk == 2) = k := ⟨_, rfl⟩
  obtain ⟨k3, hk3⟩ : ∃ k, (bk == 3) = k := ⟨_, rfl⟩
  rw [hd, hk2, hk3]
  clear hres hA hB hS
  have hfo : Tryd.prog.follows Departure.mixedOrders = true := by kernel_rfl
  go_enter Tryd.func61, Tryd.ntmps61
  go_wp2_with fail
  go_region_o
  · obtain ⟨W5, hW5⟩ : ∃ W5, (((((w.alloc (.cells #[.map (some kb), .map (some sb), .map (some ab), .map (some bb)] 99)).alloc (.cells #[.int .i64 ak, .string at_, .int .i64 0, .int .i64 bk, .string bt, .int .i64 0] 109)).alloc (.cells #[.int .i64 ak, .string at_, .int .i64 0] 59)).alloc (.cells #[.int .i64 bk, .string bt, .int .i64 0] 59)).drew) = W5 := ⟨_, rfl⟩
    have B5 : Below w.heap.size w W5 := by rw [← hW5]; exact (((((Below.refl _ w).alloc (Nat.le_refl _) _).alloc (by simp) _).alloc (by simp; omega) _).alloc (by simp; omega) _).drew
    have h0 : W5.heap[w.heap.size]? = some (.cells #[.map (some kb), .map (some sb), .map (some ab), .map (some bb)] 99 (0, 0)) := by rw [← hW5]; exact (heap_alloc_lt (by simp only [World.size_alloc]; omega)).trans ((heap_alloc_lt (by simp only [World.size_alloc]; omega)).trans ((heap_alloc_lt (by simp only [World.size_alloc]; omega)).trans (heap_alloc_at _ _)))
    have h1 : W5.heap[w.heap.size + 1]? = some (.cells #[.int .i64 ak, .string at_, .int .i64 0, .int .i64 bk, .string bt, .int .i64 0] 109 (0, 0)) := by rw [← hW5]; exact (heap_alloc_lt (by simp only [World.size_alloc]; omega)).trans ((heap_alloc_lt (by simp only [World.size_alloc]; omega)).trans (heap_alloc_at' _ _ _ (by simp only [World.size_alloc])))
    have h2 : W5.heap[w.heap.size + 1 + 1]? = some (.cells #[.int .i64 ak, .string at_, .int .i64 0] 59 (0, 0)) := by rw [← hW5]; exact (heap_alloc_lt (by simp only [World.size_alloc]; omega)).trans (heap_alloc_at' _ _ _ (by simp only [World.size_alloc]))
    have h3 : W5.heap[w.heap.size + 1 + 1 + 1]? = some (.cells #[.int .i64 bk, .string bt, .int .i64 0] 59 (0, 0)) := by rw [← hW5]; exact heap_alloc_at' _ _ _ (by simp only [World.size_alloc])
    have j0 : W5.cell? ⟨w.heap.size, 0, none⟩ = some (.map (some kb)) := by simp [World.cell?, h0]
    have j1 : W5.cell? ⟨w.heap.size, 1, none⟩ = some (.map (some sb)) := by simp [World.cell?, h0]
    have j2 : W5.cell? ⟨w.heap.size, 2, none⟩ = some (.map (some ab)) := by simp [World.cell?, h0]
    have j3 : W5.cell? ⟨w.heap.size, 3, none⟩ = some (.map (some bb)) := by simp [World.cell?, h0]
    have p0 : W5.cell? ⟨w.heap.size + 1, 0, none⟩ = some (.int .i64 ak) := by simp [World.cell?, h1]
    have p1 : W5.cell? ⟨w.heap.size + 1, 1, none⟩ = some (.string at_) := by simp [World.cell?, h1]
    have p2 : W5.cell? ⟨w.heap.size + 1, 2, none⟩ = some (.int .i64 0) := by simp [World.cell?, h1]
    have p3 : W5.cell? ⟨w.heap.size + 1, 3, none⟩ = some (.int .i64 bk) := by simp [World.cell?, h1]
    have p4 : W5.cell? ⟨w.heap.size + 1, 4, none⟩ = some (.string bt) := by simp [World.cell?, h1]
    have p5 : W5.cell? ⟨w.heap.size + 1, 5, none⟩ = some (.int .i64 0) := by simp [World.cell?, h1]
    have l0 : W5.cell? ⟨w.heap.size + 1 + 1, 0, none⟩ = some (.int .i64 ak) := by simp [World.cell?, h2]
    have l1 : W5.cell? ⟨w.heap.size + 1 + 1, 1, none⟩ = some (.string at_) := by simp [World.cell?, h2]
    have r0 : W5.cell? ⟨w.heap.size + 1 + 1 + 1, 0, none⟩ = some (.int .i64 bk) := by simp [World.cell?, h3]
    have r1 : W5.cell? ⟨w.heap.size + 1 + 1 + 1, 1, none⟩ = some (.string bt) := by simp [World.cell?, h3]
    clear h0 h1 h2 h3
    rw [hW5]
    clear hW5
    have la : ∀ q, (Instr.lookup 67 (.map (some ab)) (.string at_) false).run Tryd.prog (W5.drewN q) = .ok (.bool A) (W5.drewN q) := fun q => LA.out _ (below_drewN B5 q)
    have lb : ∀ q, (Instr.lookup 67 (.map (some bb)) (.string bt) false).run Tryd.prog (W5.drewN q) = .ok (.bool B) (W5.drewN q) := fun q => LB.out _ (below_drewN B5 q)
    have la0 : (Instr.lookup 67 (.map (some ab)) (.string at_) false).run Tryd.prog W5 = .ok (.bool A) W5 := LA.out _ B5
    have lb0 : (Instr.lookup 67 (.map (some bb)) (.string bt) false).run Tryd.prog W5 = .ok (.bool B) W5 := LB.out _ B5
    have HB5 := Lib.hid B5; clear B5
    clear LA LB
    cases d with
    | true =>
      cases k2 with
      | true =>
        go_wp2
        go_ret
        exact ⟨rfl, HB5.out⟩
      | false =>
        cases k3 with
        | true =>
          go_wp2
          go_ret
          exact ⟨rfl, HB5.out⟩
        | false =>
          cases A with
          | true =>
            go_wp2_with fail
            refine (C.out _ HB5.out).mono ?_; rintro e w6 ⟨rfl, hb6⟩
            have HB6 := Lib.hid (HB5.out.trans (hb6.mono HB5.out.size)); clear hb6
            go_wp2
            go_ret
            exact ⟨by cases S <;> rfl, HB6.out⟩
          | false =>
            cases B with
            | true =>
              go_wp2_with fail
              refine (C.out _ HB5.out).mono ?_; rintro e w6 ⟨rfl, hb6⟩
              have HB6 := Lib.hid (HB5.out.trans (hb6.mono HB5.out.size)); clear hb6
              go_wp2
              go_ret
              exact ⟨by cases S <;> rfl, HB6.out⟩
            | false =>
              go_wp2
              go_ret
              exact ⟨rfl, HB5.out⟩
    | false =>
      cases A with
      | true =>
        go_wp2_with fail
        refine (C.out _ HB5.out).mono ?_; rintro e w6 ⟨rfl, hb6⟩
        have HB6 := Lib.hid (HB5.out.trans (hb6.mono HB5.out.size)); clear hb6
        go_wp2
        go_ret
        exact ⟨by cases S <;> rfl, HB6.out⟩
      | false =>
        cases B with
        | true =>
          go_wp2_with fail
          refine (C.out _ HB5.out).mono ?_; rintro e w6 ⟨rfl, hb6⟩
          have HB6 := Lib.hid (HB5.out.trans (hb6.mono HB5.out.size)); clear hb6
          go_wp2
          go_ret
          exact ⟨by cases S <;> rfl, HB6.out⟩
        | false =>
          go_wp2
          go_ret
          exact ⟨rfl, HB5.out⟩
  · obtain ⟨W5, hW5⟩ : ∃ W5, (((((w.alloc (.cells #[.map (some kb), .map (some sb), .map (some ab), .map (some bb)] 99)).alloc (.cells #[.int .i64 ak, .string at_, .int .i64 0, .int .i64 bk, .string bt, .int .i64 0] 109)).alloc (.cells #[.int .i64 bk, .string bt, .int .i64 0] 59)).alloc (.cells #[.int .i64 ak, .string at_, .int .i64 0] 59)).drew) = W5 := ⟨_, rfl⟩
    have B5 : Below w.heap.size w W5 := by rw [← hW5]; exact (((((Below.refl _ w).alloc (Nat.le_refl _) _).alloc (by simp) _).alloc (by simp; omega) _).alloc (by simp; omega) _).drew
    have h0 : W5.heap[w.heap.size]? = some (.cells #[.map (some kb), .map (some sb), .map (some ab), .map (some bb)] 99 (0, 0)) := by rw [← hW5]; exact (heap_alloc_lt (by simp only [World.size_alloc]; omega)).trans ((heap_alloc_lt (by simp only [World.size_alloc]; omega)).trans ((heap_alloc_lt (by simp only [World.size_alloc]; omega)).trans (heap_alloc_at _ _)))
    have h1 : W5.heap[w.heap.size + 1]? = some (.cells #[.int .i64 ak, .string at_, .int .i64 0, .int .i64 bk, .string bt, .int .i64 0] 109 (0, 0)) := by rw [← hW5]; exact (heap_alloc_lt (by simp only [World.size_alloc]; omega)).trans ((heap_alloc_lt (by simp only [World.size_alloc]; omega)).trans (heap_alloc_at' _ _ _ (by simp only [World.size_alloc])))
    have h2 : W5.heap[w.heap.size + 1 + 1]? = some (.cells #[.int .i64 bk, .string bt, .int .i64 0] 59 (0, 0)) := by rw [← hW5]; exact (heap_alloc_lt (by simp only [World.size_alloc]; omega)).trans (heap_alloc_at' _ _ _ (by simp only [World.size_alloc]))
    have h3 : W5.heap[w.heap.size + 1 + 1 + 1]? = some (.cells #[.int .i64 ak, .string at_, .int .i64 0] 59 (0, 0)) := by rw [← hW5]; exact heap_alloc_at' _ _ _ (by simp only [World.size_alloc])
    have j0 : W5.cell? ⟨w.heap.size, 0, none⟩ = some (.map (some kb)) := by simp [World.cell?, h0]
    have j1 : W5.cell? ⟨w.heap.size, 1, none⟩ = some (.map (some sb)) := by simp [World.cell?, h0]
    have j2 : W5.cell? ⟨w.heap.size, 2, none⟩ = some (.map (some ab)) := by simp [World.cell?, h0]
    have j3 : W5.cell? ⟨w.heap.size, 3, none⟩ = some (.map (some bb)) := by simp [World.cell?, h0]
    have p0 : W5.cell? ⟨w.heap.size + 1, 0, none⟩ = some (.int .i64 ak) := by simp [World.cell?, h1]
    have p1 : W5.cell? ⟨w.heap.size + 1, 1, none⟩ = some (.string at_) := by simp [World.cell?, h1]
    have p2 : W5.cell? ⟨w.heap.size + 1, 2, none⟩ = some (.int .i64 0) := by simp [World.cell?, h1]
    have p3 : W5.cell? ⟨w.heap.size + 1, 3, none⟩ = some (.int .i64 bk) := by simp [World.cell?, h1]
    have p4 : W5.cell? ⟨w.heap.size + 1, 4, none⟩ = some (.string bt) := by simp [World.cell?, h1]
    have p5 : W5.cell? ⟨w.heap.size + 1, 5, none⟩ = some (.int .i64 0) := by simp [World.cell?, h1]
    have l0 : W5.cell? ⟨w.heap.size + 1 + 1 + 1, 0, none⟩ = some (.int .i64 ak) := by simp [World.cell?, h3]
    have l1 : W5.cell? ⟨w.heap.size + 1 + 1 + 1, 1, none⟩ = some (.string at_) := by simp [World.cell?, h3]
    have r0 : W5.cell? ⟨w.heap.size + 1 + 1, 0, none⟩ = some (.int .i64 bk) := by simp [World.cell?, h2]
    have r1 : W5.cell? ⟨w.heap.size + 1 + 1, 1, none⟩ = some (.string bt) := by simp [World.cell?, h2]
    clear h0 h1 h2 h3
    rw [hW5]
    clear hW5
    have la : ∀ q, (Instr.lookup 67 (.map (some ab)) (.string at_) false).run Tryd.prog (W5.drewN q) = .ok (.bool A) (W5.drewN q) := fun q => LA.out _ (below_drewN B5 q)
    have lb : ∀ q, (Instr.lookup 67 (.map (some bb)) (.string bt) false).run Tryd.prog (W5.drewN q) = .ok (.bool B) (W5.drewN q) := fun q => LB.out _ (below_drewN B5 q)
    have la0 : (Instr.lookup 67 (.map (some ab)) (.string at_) false).run Tryd.prog W5 = .ok (.bool A) W5 := LA.out _ B5
    have lb0 : (Instr.lookup 67 (.map (some bb)) (.string bt) false).run Tryd.prog W5 = .ok (.bool B) W5 := LB.out _ B5
    have HB5 := Lib.hid B5; clear B5
    clear LA LB
    cases d with
    | true =>
      cases k2 with
      | true =>
        go_wp2
        go_ret
        exact ⟨rfl, HB5.out⟩
      | false =>
        cases k3 with
        | true =>
          go_wp2
          go_ret
          exact ⟨rfl, HB5.out⟩
        | false =>
          cases A with
          | true =>
            go_wp2_with fail
            refine (C.out _ HB5.out).mono ?_; rintro e w6 ⟨rfl, hb6⟩
            have HB6 := Lib.hid (HB5.out.trans (hb6.mono HB5.out.size)); clear hb6
            go_wp2
            go_ret
            exact ⟨by cases S <;> rfl, HB6.out⟩
          | false =>
            cases B with
            | true =>
              go_wp2_with fail
              refine (C.out _ HB5.out).mono ?_; rintro e w6 ⟨rfl, hb6⟩
              have HB6 := Lib.hid (HB5.out.trans (hb6.mono HB5.out.size)); clear hb6
              go_wp2
              go_ret
              exact ⟨by cases S <;> rfl, HB6.out⟩
            | false =>
              go_wp2
              go_ret
              exact ⟨rfl, HB5.out⟩
    | false =>
      cases A with
      | true =>
        go_wp2_with fail
        refine (C.out _ HB5.out).mono ?_; rintro e w6 ⟨rfl, hb6⟩
        have HB6 := Lib.hid (HB5.out.trans (hb6.mono HB5.out.size)); clear hb6
        go_wp2
        go_ret
        exact ⟨by cases S <;> rfl, HB6.out⟩
      | false =>
        cases B with
        | true =>
          go_wp2_with fail
          refine (C.out _ HB5.out).mono ?_; rintro e w6 ⟨rfl, hb6⟩
          have HB6 := Lib.hid (HB5.out.trans (hb6.mono HB5.out.size)); clear hb6
          go_wp2
          go_ret
          exact ⟨by cases S <;> rfl, HB6.out⟩
        | false =>
          go_wp2
          go_ret
          exact ⟨rfl, HB5.out⟩
end Go.Proofs.YtokdoklkaojheaaDoor

namespace Go.Proofs.YtokdoklkaojheaaDoor
open Go.RowKit Go.Shelf

theorem Tryd.info27 : (Tryd.prog.info? 27).map (fun i => (i.zero, i.size, i.bytes)) = some (some (.int .i64 0), 1, 8) := by kernel_rfl
def errRow (xs : List Tk) : List Value := xs.map fun x => .int .i64 (ckTok x)

structure TransLoop (w : World) (xs : List Tk) (v : Value) (k : Nat) (wr : World) : Prop where
  row : wr.ownsRow w.heap.size 27 1 v k (errRow (xs.take k))
  below : Below w.heap.size w wr
theorem errRow_snoc (pre : List Tk) (x : Tk) : errRow (pre ++ [x]) = errRow pre ++ [.int .i64 (ckTok x)] := by simp [errRow]
theorem one_new1 (w : World) (a : Value) (t : TypeId) : ∀ (j : Nat) (u : Value), [a][j]? = some u → (w.alloc (.cells #[a] t)).cell? ((⟨w.heap.size, 0, none⟩ : Addr).add j) = some u
  | 0, _, h => by simp [Addr.add] at h ⊢; exact h
  | j + 1, _, h => by simp at h

set_option maxHeartbeats 4000000 in
set_option maxRecDepth 100000 in
theorem transform_any (g n c : Nat) (xs : List Tk) (kb sb : Nat) (m : Int) (w : World) (hn : n = xs.length) (hn80 : n ≤ 80) (hsz : ∀ x ∈ xs, x.text.size ≤ 65536) (hg : g < w.heap.size) (hx : tksAt w g 0 xs) (hsc : IsScanner w kb sb) (hm : w.cell? ⟨2, 0, none⟩ = some (.int .i64 m)) :
    Calls Tryd.prog 58 #[.slice (some ⟨g, 0, none⟩) n c, .func (.func 59) #[.agg #[.map (some kb), .map (some sb)]] #[]] w fun e w' => ∃ v, e = .returned v ∧ w'.ownsRow w.heap.size 27 1 v n (errRow xs) ∧ Below w.heap.size w w' := by
  obtain ⟨i0, hi, hz0, hz1, hz2⟩ := info_parts Tryd.info27
  have hmk := fun w => run_makeSlice_owned (P := Tryd.prog) w w.heap.size 100 27 i0 (.int .i64 0) 1 Tryd.underlying100 hi hz0 hz1 .i64 .i64 n (by omega) (by rw [hz2]; omega) (by unfold maxLen; omega) (Nat.le_refl _)
  obtain ⟨w1, hmk1, hown1, hgr1⟩ := hmk w
  have Ck := Lib.hid (fun x (hx : x ∈ xs) w3 (h : Below w.heap.size w w3) => checkToken_any x (hsz x hx) kb sb m w3 (hsc.below hsc.lt.1 hsc.lt.2 h) ((h.cell (p := ⟨2, 0, none⟩) (World.block_lt_of_cell? _ _ hm)).trans hm))
  have Hn := Lib.hid hn; have Hx := Lib.hid hx; have Hown1 := Lib.hid hown1; have Hgr1 := Lib.hid hgr1
  clear hn hx hsz hsc hm hmk hown1 hgr1
  go_enter Tryd.func58, Tryd.ntmps58
  go_wp2_with fail
  go_loopw [5, 13] (fun v i wr => ∃ k : Nat, k ≤ n ∧ i = .int .i64 k ∧ TransLoop w xs v k wr) (fun _ i _ => n - (intOf i).toNat)
  case atStart => exact ⟨0, Nat.zero_le _, rfl, ⟨Hown1.out, (Below.refl _ w).grown Hgr1.out (Nat.le_refl _) (fun j hj => by cases hj)⟩⟩
  case round =>
    obtain ⟨k, hk, rfl, hT⟩ := hrel
    by_cases hlt : k < n
    · have hkx : k < xs.length := by have := Hn.out; omega
      have hbr := hT.below.size
      obtain ⟨a0, a1, a2⟩ := Hx.out k xs[k] (List.getElem?_eq_getElem hkx)
      simp only [Nat.zero_add] at a0 a1 a2
      have c0 := (hT.below.cell (p := ⟨g, k * 3, none⟩) hg).trans a0
      have c1 := (hT.below.cell (p := ⟨g, k * 3 + 1, none⟩) hg).trans a1
      have c2 := (hT.below.cell (p := ⟨g, k * 3 + 2, none⟩) hg).trans a2
      have hsn : xs.take (k + 1) = xs.take k ++ [xs[k]] := List.take_succ_eq_append_getElem hkx
      have ck := fun w3 h => Ck.out xs[k] (List.getElem_mem hkx) w3 h
      have Hsn := Lib.hid hsn; clear hsn
      have HT := Lib.hid hT; clear hT a0 a1 a2
      obtain ⟨x, hxk⟩ : ∃ x, xs[k] = x := ⟨_, rfl⟩
      rw [hxk] at c0 c1 c2 Hsn ck
      clear hxk
      have CK := Lib.hid ck; clear ck
      have hB1 := HT.out.below.alloc hbr (.cells #[.int .i64 x.kind, .string x.text, .int .i64 x.pos] 59)
      have HB1 := Lib.hid hB1; clear hB1
      go_wp2_with fail
      refine (CK.out _ HB1.out).mono ?_; rintro e w2 ⟨rfl, hb2⟩
      have hB2 := HB1.out.trans (hb2.mono HB1.out.size)
      have hown := ownsRow_below (HT.out.row) ((Below.refl _ wr).alloc (Nat.le_refl _) (.cells #[.int .i64 x.kind, .string x.text, .int .i64 x.pos] 59))
      have hown2 := ownsRow_below hown hb2
      have hz2' := hB2.size
      have HB2 := Lib.hid hB2; clear hB2 hown hb2
      go_wp2_with (at_builtin; refine wpList_append_own _ rfl _ _ 100 rfl w.heap.size 27 i0 (.int .i64 0) 1 8 Tryd.underlying100 hi hz0 hz1 hz2 rfl (by decide) _ _ _ rfl (hown2.alloc _) ⟨w2.heap.size, 0, none⟩ 1 1 [.int .i64 (ckTok x)] rfl rfl ?c1 ?c2 ?c3 ?c4 ?c5 ?_)
      case c1 => exact one_new1 _ _ _
      case c2 => simp [Value.oneCell']
      case c3 => unfold maxLen; omega
      case c4 => omega
      case c5 => simp; omega
      · intro v' w3 hown' hgrow _
        have hbig : Below w.heap.size w w3 := (HB2.out.alloc hz2' _).grown hgrow (by simp; omega) (fun j hj => (hown2.lt j hj).1)
        have hnew : TransLoop w xs v' (k + 1) w3 := ⟨by rw [Hsn.out, errRow_snoc]; exact hown', hbig⟩
        have Hnew := Lib.hid hnew
        clear hown' hown2 hgrow hbig hnew
        go_wp2
        go_roundw
        case rel => exact ⟨k + 1, by omega, by go_num, Hnew.out⟩
        case measure => simp [intOf]; omega
    · have hkn : k = n := by omega
      subst hkn
      have hrow := hT.row
      rw [show xs.take k = xs from List.take_of_length_le (by have := Hn.out; omega)] at hrow
      have hbl := hT.below
      have Hrow := Lib.hid hrow; have Hbl := Lib.hid hbl
      clear hrow hbl hT
      go_wp2
      go_ret
      exact ⟨_, rfl, Hrow.out, Hbl.out⟩
end Go.Proofs.YtokdoklkaojheaaDoor

namespace Go.Proofs.YtokdoklkaojheaaDoor
open Go.RowKit Go.Shelf

theorem eq_nil26 (g n c : Nat) (w : World) : (binOp .eql 26 (.slice (some ⟨g, 0, none⟩) n c) (.slice none 0 0)).run Tryd.prog w = .ok (.bool false) w := by kernel_rfl
theorem eq_nil26' (w : World) : (binOp .eql 26 (.slice none 0 0) (.slice none 0 0)).run Tryd.prog w = .ok (.bool true) w := by kernel_rfl
theorem tkRow_cells : ∀ (xs : List Tk) (w : World) (g : Nat), tksAt w g 0 xs → ∀ (j : Nat) (u : Value), (tkRow xs)[j]? = some u → w.cell? ⟨g, j, none⟩ = some u := by
  intro xs w g h j u hj
  have hlen := tkRow_len xs
  have hjl : j < xs.length * 3 := by
    have := (List.getElem?_eq_some_iff.1 hj).1
    omega
  have hd : ∀ (ys : List Tk) (i : Nat) (x : Tk), ys[i]? = some x → (tkRow ys)[i * 3]? = some (.int .i64 x.kind) ∧ (tkRow ys)[i * 3 + 1]? = some (.string x.text) ∧ (tkRow ys)[i * 3 + 2]? = some (.int .i64 x.pos) := by
    intro ys
    induction ys with
    | nil => intro i x h; simp at h
    | cons y ys ih =>
      intro i x h
      cases i with
      | zero => simp at h; subst h; exact ⟨rfl, rfl, rfl⟩
      | succ i =>
        have := ih i x (by simpa using h)
        have e : ∀ j, (tkRow (y :: ys))[(i + 1) * 3 + j]? = (tkRow ys)[i * 3 + j]? := by
          intro j
          show (tkCells y ++ tkRow ys)[(i + 1) * 3 + j]? = _
          rw [List.getElem?_append_right (by simp [tkCells]; omega)]
          rw [show (i + 1) * 3 + j - (tkCells y).length = i * 3 + j by simp [tkCells]; omega]
        have e0 := e 0
        simp only [Nat.add_zero] at e0
        exact ⟨e0.trans this.1, (e 1).trans this.2.1, (e 2).trans this.2.2⟩
  have hi : j / 3 < xs.length := by omega
  obtain ⟨r0, r1, r2⟩ := hd xs (j / 3) xs[j / 3] (List.getElem?_eq_getElem hi)
  obtain ⟨c0, c1, c2⟩ := h (j / 3) xs[j / 3] (List.getElem?_eq_getElem hi)
  simp only [Nat.zero_add] at c0 c1 c2
  have hm : j % 3 = 0 ∨ j % 3 = 1 ∨ j % 3 = 2 := by omega
  rcases hm with hm | hm | hm
  · have e : j = j / 3 * 3 := by omega
    rw [← e] at r0 c0; rw [r0] at hj; cases hj; exact c0
  · have e : j = j / 3 * 3 + 1 := by omega
    rw [← e] at r1 c1; rw [r1] at hj; cases hj; exact c1
  · have e : j = j / 3 * 3 + 2 := by omega
    rw [← e] at r2 c2; rw [r2] at hj; cases hj; exact c2
theorem tkRow_one (xs : List Tk) : ∀ u ∈ tkRow xs, u.oneCell' = true := by
  intro u hu
  simp only [tkRow, List.mem_flatMap, tkCells, List.mem_cons, List.not_mem_nil, or_false] at hu
  obtain ⟨x, _, rfl | rfl | rfl⟩ := hu <;> rfl

set_option maxHeartbeats 4000000 in
set_option maxRecDepth 100000 in
theorem clone_any (g n c : Nat) (xs : List Tk) (w : World) (hn : n = xs.length) (hn80 : n ≤ 80) (hg : g < w.heap.size) (hx : tksAt w g 0 xs) :
    Calls Tryd.prog 60 #[.slice (some ⟨g, 0, none⟩) n c] w fun e w' => ∃ v, e = .returned v ∧ w'.ownsRow w.heap.size 59 3 v n (tkRow xs) ∧ Below w.heap.size w w' := by
  obtain ⟨i0, hi, hz0, hz1, hz2⟩ := info_parts Tryd.info59
  have hq := fun w => eq_nil26 g n c w
  have hown0 := World.ownsRow_lit (base := w.heap.size) (e := 59) (size := 3) w #[] 0 (Nat.le_refl _) (by decide) rfl
  have hB0 := (Below.refl _ w).alloc (Nat.le_refl _) (.cells #[] 59)
  have hcell : ∀ (j : Nat) (u : Value), (tkRow xs)[j]? = some u → (w.alloc (.cells #[] 59)).cell? ((⟨g, 0, none⟩ : Addr).add j) = some u := by
    intro j u hj
    have e : (⟨g, 0, none⟩ : Addr).add j = ⟨g, j, none⟩ := by
      by_cases h0 : j = 0
      · subst h0; simp [Addr.add]
      · simp [Addr.add, h0]
    rw [e]
    exact (hB0.cell (p := ⟨g, j, none⟩) hg).trans (tkRow_cells xs w g hx j u hj)
  have hlen := tkRow_len xs
  rw [← hn] at hlen
  have Hc := Lib.hid hcell; have HB0 := Lib.hid hB0
  clear hx hn hcell hB0
  go_enter Tryd.func60, Tryd.ntmps60
  go_wp2_with (at_builtin; refine wpList_append_own _ rfl _ _ 26 rfl w.heap.size 59 i0 (.agg #[.int .i64 0, .string ⟨#[]⟩, .int .i64 0]) 3 32 Tryd.underlying26 hi hz0 hz1 hz2 rfl (by decide) _ _ _ rfl hown0 ⟨g, 0, none⟩ n c (tkRow xs) rfl hlen Hc.out (tkRow_one xs) (by unfold maxLen; omega) (by omega) (by simp) ?_)
  intro v' w1 hown' hgrow _
  have hbig : Below w.heap.size w w1 := HB0.out.grown hgrow (by simp) (fun j hj => by cases hj; exact Nat.le_refl _)
  have Hown := Lib.hid hown'; have Hbig := Lib.hid hbig
  clear hown' hbig hgrow hown0
  go_wp2
  go_ret
  exact ⟨_, rfl, Hown.out, Hbig.out⟩

theorem clone_nil (w : World) : Calls Tryd.prog 60 #[.slice none 0 0] w fun e w' => e = .returned (.slice none 0 0) ∧ w = w' := by
  have hq := fun w => eq_nil26' w
  go_enter Tryd.func60, Tryd.ntmps60
  go_wp2
  go_ret
  exact ⟨rfl, rfl⟩
end Go.Proofs.YtokdoklkaojheaaDoor

namespace Go.Proofs.YtokdoklkaojheaaDoor
open Go.RowKit Go.Shelf

def zer (x : Tk) : Tk := ⟨x.kind, x.text, 0⟩
def txtK (xs : List Tk) (k : Nat) : List UInt8 := match xs[k]? with | some x => x.text.data.toList | none => []
def sepK (xs : List Tk) : Nat → List UInt8
  | 0 => []
  | k + 1 => match xs[k]?, xs[k + 1]? with
    | some a, some b => if spcB a b = true then [32] else []
    | _, _ => []
def joinK (xs : List Tk) : Nat → List UInt8
  | 0 => []
  | k + 1 => joinK xs k ++ sepK xs k ++ txtK xs k

def joinOut (xs : List Tk) : ByteArray × Int := if firstErr (xs.map ckTok) ≠ 0 then (⟨#[]⟩, firstErr (xs.map ckTok)) else (⟨(joinK (xs.map zer) xs.length).toArray⟩, 0)

/-- the copy, its first k offsets being 0 -/
structure ZLoop (w : World) (h : Nat) (cp : Nat) (xs : List Tk) (w7 : World) (k : Nat) (wr : World) : Prop where
  row : ∃ R, wr.ownsRow w7.heap.size 59 3 (.slice (some ⟨h, 0, none⟩) xs.length cp) xs.length R ∧ (∀ (i : Nat) (x : Tk), xs[i]? = some x → R[i * 3]? = some (.int .i64 x.kind) ∧ R[i * 3 + 1]? = some (.string x.text) ∧ (∃ p, R[i * 3 + 2]? = some (.int .i64 p) ∧ (i < k → p = 0)))
  below : Below w7.heap.size w7 wr

theorem tkRow_at : ∀ (xs : List Tk) (i : Nat) (x : Tk), xs[i]? = some x → (tkRow xs)[i * 3]? = some (.int .i64 x.kind) ∧ (tkRow xs)[i * 3 + 1]? = some (.string x.text) ∧ (tkRow xs)[i * 3 + 2]? = some (.int .i64 x.pos)
  | [], _, _, h => by simp at h
  | y :: ys, 0, x, h => by simp at h; subst h; exact ⟨rfl, rfl, rfl⟩
  | y :: ys, i + 1, x, h => by
    have := tkRow_at ys i x (by simpa using h)
    have e : ∀ j, (tkRow (y :: ys))[(i + 1) * 3 + j]? = (tkRow ys)[i * 3 + j]? := by
      intro j
      show (tkCells y ++ tkRow ys)[(i + 1) * 3 + j]? = _
      rw [List.getElem?_append_right (by simp [tkCells]; omega)]
      rw [show (i + 1) * 3 + j - (tkCells y).length = i * 3 + j by simp [tkCells]; omega]
    have e0 := e 0
    simp only [Nat.add_zero] at e0
    exact ⟨e0.trans this.1, (e 1).trans this.2.1, (e 2).trans this.2.2⟩

theorem othersKept_below {e : TypeId} {b : Option Nat} {w w' : World} (h : Below w.heap.size w w') : Lib.OthersKept e b w w' :=
  fun k _ hk _ _ => (h.block k (Array.getElem?_eq_some_iff.1 hk).1).trans hk

structure JLoop (w w8 : World) (TB : Nat) (l : List UInt8) (wr : World) : Prop where
  text : Lib.IsBuilderF 107 5 w.heap.size TB (Lib.byteCells l) wr
  kept : Lib.OthersKept 5 (some TB) w8 wr
  below : Below w.heap.size w wr
theorem JLoop.later {w w8 W W' : World} {TB : Nat} {l : List UInt8} (h : JLoop w w8 TB l W) (hb : Below W.heap.size W W') : JLoop w w8 TB l W' :=
  ⟨builder_below h.text hb, h.kept.trans (othersKept_below hb), h.below.trans (hb.mono h.below.size)⟩
theorem JLoop.wrote {w w8 W W' : World} {TB : Nat} {l l' : List UInt8} {bs : List Value} (h : JLoop w w8 TB l W) (hbs : bs = Lib.byteCells l')
    (hw : Lib.BuilderAtF 107 5 w.heap.size TB (.pointer (some ⟨TB, 0, none⟩)) bs W' ∧ Below w.heap.size W W' ∧ Lib.OthersKept 5 (some TB) W W') : JLoop w w8 TB l' W' := by
  subst hbs
  exact ⟨.inr hw.1, h.kept.trans hw.2.2, h.below.trans hw.2.1⟩

structure JHeld (w8 : World) (TB kb sb ab bb JB h : Nat) (ys : List Tk) : Prop where
  scan : IsScanner w8 kb sb
  aft : w8.heap[ab]? = some (setObjOf afterL)
  bef : w8.heap[bb]? = some (setObjOf beforeL)
  join : w8.heap[JB]? = some (.cells #[.map (some kb), .map (some sb), .map (some ab), .map (some bb)] 99 (0, 0))
  list : ∃ cu, w8.heap[h]? = some (.cells cu 59 (0, 0))
  toks : tksAt w8 h 0 ys
  lt : kb < TB ∧ sb < TB ∧ ab < TB ∧ bb < TB ∧ JB < TB ∧ h < TB
theorem JHeld.kept {w8 wr : World} {TB kb sb ab bb JB h : Nat} {ys : List Tk} (H : JHeld w8 TB kb sb ab bb JB h ys) (k : Lib.OthersKept 5 (some TB) w8 wr) : JHeld wr TB kb sb ab bb JB h ys := by
  obtain ⟨l1, l2, l3, l4, l5, l6⟩ := H.lt
  have e : ∀ b, b < TB → some b ≠ some TB := fun b hb e => by cases e; omega
  obtain ⟨cu, hcu⟩ := H.list
  have hl := k h _ hcu (e _ l6) (fun c fz e => by cases e)
  have hc : ∀ o, wr.cell? ⟨h, o, none⟩ = w8.cell? ⟨h, o, none⟩ := fun o => World.cell?_of_block (hl.trans hcu.symm)
  exact ⟨⟨k _ _ H.scan.1 (e _ l1) (fun c fz e => by cases e), k _ _ H.scan.2 (e _ l2) (fun c fz e => by cases e)⟩, k _ _ H.aft (e _ l3) (fun c fz e => by cases e), k _ _ H.bef (e _ l4) (fun c fz e => by cases e),
    k _ _ H.join (e _ l5) (fun c fz e => by cases e), ⟨cu, hl⟩, fun i x hi => ⟨(hc _).trans (H.toks i x hi).1, (hc _).trans (H.toks i x hi).2.1, (hc _).trans (H.toks i x hi).2.2⟩, H.lt⟩

theorem joinK_le (ys : List Tk) (h : ∀ y ∈ ys, y.text.size ≤ 200) : ∀ k, (joinK ys k).length ≤ k * 201
  | 0 => by simp [joinK]
  | k + 1 => by
    have ih := joinK_le ys h k
    have h1 : (sepK ys k).length ≤ 1 := by
      cases k with
      | zero => simp [sepK]
      | succ k =>
        simp only [sepK]
        split
        · split <;> simp
        · simp
    have h2 : (txtK ys k).length ≤ 200 := by
      unfold txtK
      split
      · rename_i x hx
        have := h x (List.mem_of_getElem? hx)
        simpa using this
      · simp
    simp only [joinK, List.length_append]
    omega

theorem firstErr_zero : ∀ l : List Int, firstErr l = 0 → ∀ e ∈ l, e = 0
  | [], _, e, h => by simp at h
  | x :: l, h, e, he => by
    unfold firstErr at h
    by_cases hx : x = 0
    · rw [if_pos hx] at h
      rcases List.mem_cons.1 he with rfl | he
      · exact hx
      · exact firstErr_zero l h e he
    · rw [if_neg hx] at h; exact absurd h hx
theorem ckTok_zero (x : Tk) (h : ckTok x = 0) : readsB x = true := by
  unfold ckTok at h
  split at h
  · simp at h
  · split at h
    · assumption
    · simp at h

theorem afterL_nodup : afterL.Nodup := by decide +kernel
theorem beforeL_nodup : beforeL.Nodup := by decide +kernel

theorem reads_pos (t : Tk) (h : readsB t = true) : 0 < t.text.size := by
  rcases toks_first t.text with h0 | ⟨x, hx, hf⟩
  · simp [readsB, h0] at h
  · unfold readsB at h
    split at h
    · cases h
    · rename_i hn
      have hall := List.find?_eq_none.1 hn
      have hx1 := hall x (by rw [hx]; simp)
      obtain ⟨e0, _, et, _⟩ := (isTok_iff t x).1 (by simpa [notTok] using hx1)
      have := (hf e0).2.2.1
      rw [et] at this
      exact this

set_option maxHeartbeats 8000000 in
set_option maxRecDepth 100000 in
theorem join_any (g n c : Nat) (xs : List Tk) (m : Int) (w : World) (hn : n = xs.length) (hn0 : 0 < n) (hn80 : n ≤ 80) (hsz : ∀ x ∈ xs, x.text.size ≤ 200) (hg : g < w.heap.size) (hx : tksAt w g 0 xs) (ht : Tab w) (hm : w.cell? ⟨2, 0, none⟩ = some (.int .i64 m)) :
    Calls Tryd.prog 30 #[.slice (some ⟨g, 0, none⟩) n c] w fun e w' => e = .returned (.tuple #[.string (joinOut xs).1, .int .i64 (joinOut xs).2]) ∧ Below w.heap.size w w' := by
  have d0 : decide ((20000 : Int) < (n : Int)) = false := decide_eq_false (by omega)
  have Ht := Lib.hid ht; have Hx := Lib.hid hx; have Hm := Lib.hid hm; have Hsz := Lib.hid hsz; have Hn := Lib.hid hn
  clear ht hx hm hsz hn
  go_enter Tryd.func30, Tryd.ntmps30
  go_wp2_with fail
  refine (newScanner_any _ Ht.out).mono ?_; rintro e w1 ⟨kb, sb, rfl, hsc, hkb, hsb, hb1⟩
  have Hb1 := Lib.hid hb1; have Hsc := Lib.hid hsc; clear hb1 hsc
  go_wp2_with fail
  refine (wordSet_any _ afterL _ (by decide +kernel) (ascii_of _ (by decide +kernel)) (by decide +kernel) afterL_nodup (by decide +kernel) (Ht.out.below Hb1.out)).mono ?_; rintro e w2 ⟨rfl, hw2⟩
  have hA2 : w2.heap[w1.heap.size + 1]? = some (setObjOf afterL) := by rw [hw2]; exact heap_alloc_at' _ _ _ (by simp)
  have hb2 : Below w1.heap.size w1 w2 := by rw [hw2]; exact below_two w1 _ _
  have HA2 := Lib.hid hA2; have Hb2 := Lib.hid (Hb1.out.trans (hb2.mono Hb1.out.size)); have Hsc2 := Lib.hid (Hsc.out.below Hsc.out.lt.1 Hsc.out.lt.2 hb2)
  clear hA2 hb2 hw2
  go_wp2_with fail
  refine (wordSet_any _ beforeL _ (by decide +kernel) (ascii_of _ (by decide +kernel)) (by decide +kernel) beforeL_nodup (by decide +kernel) (Ht.out.below Hb2.out)).mono ?_; rintro e w3 ⟨rfl, hw3⟩
  have hb3 : Below w2.heap.size w2 w3 := by rw [hw3]; exact below_two w2 _ _
  have HB3 := Lib.hid (show w3.heap[w2.heap.size + 1]? = some (setObjOf beforeL) by rw [hw3]; exact heap_alloc_at' _ _ _ (by simp))
  have HA3 := Lib.hid ((hb3.block _ (Array.getElem?_eq_some_iff.1 HA2.out).1).trans HA2.out)
  have Hb3 := Lib.hid (Hb2.out.trans (hb3.mono Hb2.out.size)); have Hsc3 := Lib.hid (Hsc2.out.below Hsc2.out.lt.1 Hsc2.out.lt.2 hb3)
  clear hb3 hw3 HA2 Hsc Hsc2 Hb2
  obtain ⟨ab, hab⟩ : ∃ ab, w1.heap.size + 1 = ab := ⟨_, rfl⟩
  obtain ⟨bb, hbb⟩ : ∃ bb, w2.heap.size + 1 = bb := ⟨_, rfl⟩
  rw [hab] at HA3 ⊢
  rw [hbb] at HB3 ⊢
  clear hab hbb
  have hJ4 : (w3.alloc (.cells #[.map (some kb), .map (some sb), .map (some ab), .map (some bb)] 99)).heap[w3.heap.size]? = some (.cells #[.map (some kb), .map (some sb), .map (some ab), .map (some bb)] 99 (0, 0)) := heap_alloc_at _ _
  have hz34 : w3.heap.size < (w3.alloc (.cells #[.map (some kb), .map (some sb), .map (some ab), .map (some bb)] 99)).heap.size := by simp
  have hb34 := (Below.refl _ w3).alloc (Nat.le_refl _) (.cells #[.map (some kb), .map (some sb), .map (some ab), .map (some bb)] 99)
  have Hb4 := Lib.hid (Hb3.out.trans (hb34.mono Hb3.out.size))
  have Hsc4 := Lib.hid (Hsc3.out.below Hsc3.out.lt.1 Hsc3.out.lt.2 hb34)
  have HA4 := Lib.hid ((hb34.block _ (Array.getElem?_eq_some_iff.1 HA3.out).1).trans HA3.out)
  have HB4 := Lib.hid ((hb34.block _ (Array.getElem?_eq_some_iff.1 HB3.out).1).trans HB3.out)
  have Hz34 := Lib.hid hz34; have HJ4 := Lib.hid hJ4
  clear hJ4 hz34 hb34 Hsc3 HA3 HB3 Hb3
  go_wp2_with fail
  have hw2 := World.block_lt_of_cell? _ _ Hm.out
  obtain ⟨w4, hw4⟩ : ∃ w4, w3.alloc (.cells #[.map (some kb), .map (some sb), .map (some ab), .map (some bb)] 99) = w4 := ⟨_, rfl⟩
  obtain ⟨JB, hJB⟩ : ∃ JB, w3.heap.size = JB := ⟨_, rfl⟩
  rw [hw4] at Hb4 Hsc4 HA4 HB4 Hz34 HJ4 ⊢
  rw [hJB] at Hz34 HJ4 ⊢
  clear hw4 hJB
  have hm4 := (Hb4.out.cell (p := ⟨2, 0, none⟩) hw2).trans Hm.out
  have hx4 : tksAt w4 g 0 xs := fun i x hi => ⟨(Hb4.out.cell (p := ⟨g, 0 + i * 3, none⟩) hg).trans (Hx.out i x hi).1, (Hb4.out.cell (p := ⟨g, 0 + i * 3 + 1, none⟩) hg).trans (Hx.out i x hi).2.1, (Hb4.out.cell (p := ⟨g, 0 + i * 3 + 2, none⟩) hg).trans (Hx.out i x hi).2.2⟩
  have hg4 : g < w4.heap.size := Nat.lt_of_lt_of_le hg Hb4.out.size
  refine (transform_any g n c xs kb sb m w4 Hn.out hn80 (fun x hx => Nat.le_trans (Hsz.out x hx) (by omega)) hg4 hx4 Hsc4.out hm4).mono ?_; rintro e w5 ⟨v5, rfl, hrow5, hb45⟩
  obtain ⟨n1, rfl⟩ : ∃ n1, n = n1 + 1 := ⟨n - 1, by omega⟩
  obtain ⟨ge, ce, rfl⟩ := ownsRow_succ hrow5
  have hcell5 : ∀ i, i < n1 + 1 → w5.cell? ⟨ge, i, none⟩ = some (.int .i64 ((xs.map ckTok).getD i 0)) := by
    intro i hi
    have hil : i < xs.length := by have := Hn.out; omega
    refine row_cell hrow5 i _ ?_
    simp [errRow, List.getD, List.getElem?_map, List.getElem?_eq_getElem hil]
  have C5 := Lib.hid (firstError_any ge (xs.map ckTok) (n1 + 1) ce w5 (by rw [List.length_map]; exact Hn.out) (by omega) hcell5)
  have Hb5 := Lib.hid (Hb4.out.trans (hb45.mono Hb4.out.size))
  have Hsc5 := Lib.hid (Hsc4.out.below Hsc4.out.lt.1 Hsc4.out.lt.2 hb45)
  have HA5 := Lib.hid ((hb45.block _ (Array.getElem?_eq_some_iff.1 HA4.out).1).trans HA4.out)
  have HB5 := Lib.hid ((hb45.block _ (Array.getElem?_eq_some_iff.1 HB4.out).1).trans HB4.out)
  have HJ5 := Lib.hid ((hb45.block _ Hz34.out).trans HJ4.out)
  clear hcell5 hrow5 hb45 hx4 hm4 Hsc4 HA4 HB4 HJ4 Hz34 Hb4 hg4
  go_wp2_with fail
  refine C5.out.mono ?_; rintro e w6 ⟨rfl, rfl⟩
  clear C5
  obtain ⟨E, hE⟩ : ∃ E, firstErr (xs.map ckTok) = E := ⟨_, rfl⟩
  rw [hE]
  have HE := Lib.hid hE; clear hE
  by_cases h0 : E = 0
  · subst h0
    have hx5 : tksAt w5 g 0 xs := fun i x hi => ⟨(Hb5.out.cell (p := ⟨g, 0 + i * 3, none⟩) hg).trans (Hx.out i x hi).1, (Hb5.out.cell (p := ⟨g, 0 + i * 3 + 1, none⟩) hg).trans (Hx.out i x hi).2.1, (Hb5.out.cell (p := ⟨g, 0 + i * 3 + 2, none⟩) hg).trans (Hx.out i x hi).2.2⟩
    have C7 := Lib.hid (clone_any g (n1 + 1) c xs w5 Hn.out hn80 (Nat.lt_of_lt_of_le hg Hb5.out.size) hx5)
    clear hx5
    go_wp2_with fail
    refine C7.out.mono ?_; rintro e w7 ⟨v7, rfl, hrow7, hb57⟩
    clear C7
    obtain ⟨h, cp, rfl⟩ := ownsRow_succ hrow7
    have hz0 : ZLoop w5 h cp xs w5 0 w7 := by
      refine ⟨⟨tkRow xs, ?_, fun i x hi => ?_⟩, hb57⟩
      · rw [← Hn.out]; exact hrow7
      · obtain ⟨r0, r1, r2⟩ := tkRow_at xs i x hi
        exact ⟨r0, r1, x.pos, r2, fun h => by omega⟩
    have HZ0 := Lib.hid hz0
    clear hz0 hrow7 hb57
    go_wp2_with fail
    go_loopw [7, 31] (fun _ i wr => ∃ k : Nat, k ≤ n1 + 1 ∧ i = .int .i64 k ∧ ZLoop w5 h cp xs w5 k wr) (fun _ i _ => n1 + 1 - (intOf i).toNat)
    case atStart => exact ⟨0, Nat.zero_le _, rfl, HZ0.out⟩
    case round =>
      obtain ⟨k, hk, rfl, hT⟩ := hrel
      by_cases hlt : k < n1 + 1
      · have hkx : k < xs.length := by have := Hn.out; omega
        obtain ⟨R, hR, hRc⟩ := hT.row
        obtain ⟨r0, r1, p, r2, rp⟩ := hRc k xs[k] (List.getElem?_eq_getElem hkx)
        have c2 := row_cell hR _ _ r2
        have fz := hR.frozenAt (k * 3 + 2)
        obtain ⟨hst1, hst2⟩ := hR.stored (k * 3 + 2) (.int .i64 0)
        have hnew : ZLoop w5 h cp xs w5 (k + 1) (wr.setCell ⟨h, k * 3 + 2, none⟩ (.int .i64 0)) := by
          refine ⟨⟨_, hst1, fun i x hi => ?_⟩, hT.below.grown hst2 hT.below.size (fun j hj => by cases hj; exact (hR.lt h rfl).1)⟩
          obtain ⟨q0, q1, q, q2, qp⟩ := hRc i x hi
          have hlenR : k * 3 + 2 < R.length := (List.getElem?_eq_some_iff.1 r2).1
          refine ⟨?_, ?_, ?_⟩
          · rw [List.getElem?_set_ne (by omega)]; exact q0
          · rw [List.getElem?_set_ne (by omega)]; exact q1
          · by_cases hik : i = k
            · subst hik
              exact ⟨0, List.getElem?_set_self hlenR, fun _ => rfl⟩
            · exact ⟨q, by rw [List.getElem?_set_ne (by omega)]; exact q2, fun h => qp (by omega)⟩
        have Hnew := Lib.hid hnew
        clear hnew hst1 hst2 hR hRc hT r0 r1 r2
        go_wp2
        go_roundw
        case rel => exact ⟨k + 1, by omega, by go_num, Hnew.out⟩
        case measure => simp [intOf]; omega
      · have hkn : k = n1 + 1 := by omega
        subst hkn
        have hin : tksAt wr h 0 (xs.map zer) := by
          obtain ⟨R, hR, hRc⟩ := hT.row
          intro i x hi
          rw [List.getElem?_map] at hi
          cases hxi : xs[i]? with
          | none => rw [hxi] at hi; simp at hi
          | some y =>
            rw [hxi] at hi
            obtain rfl : zer y = x := by simpa using hi
            obtain ⟨q0, q1, q, q2, qp⟩ := hRc i y hxi
            have := (List.getElem?_eq_some_iff.1 hxi).1
            rw [qp (by have := Hn.out; omega)] at q2
            simp only [Nat.zero_add]
            exact ⟨row_cell hR _ _ q0, row_cell hR _ _ q1, row_cell hR _ _ q2⟩
        have hkind : ∃ cu, wr.heap[h]? = some (.cells cu 59 (0, 0)) := by
          obtain ⟨R, hR, _⟩ := hT.row
          rcases hR.2 with ⟨h', _⟩ | ⟨g', cap', cur, h', _, hg', _⟩
          · simp at h'
          · simp only [Value.slice.injEq, Option.some.injEq, Addr.mk.injEq, and_true, true_and] at h'
            obtain ⟨rfl, rfl⟩ := h'
            exact ⟨cur, hg'⟩
        have hbl := hT.below
        have hz5 := Hb5.out.size
        have hB0 : Lib.IsBuilderF 107 5 w.heap.size wr.heap.size (Lib.byteCells (joinK (xs.map zer) 0)) (wr.alloc (.cells #[.pointer none, .slice none 0 0] 107)) := builder_new wr _ (Nat.le_trans hz5 hbl.size)
        have hbw : Below w.heap.size w (wr.alloc (.cells #[.pointer none, .slice none 0 0] 107)) := (Hb5.out.trans (hbl.mono hz5)).alloc (Nat.le_trans hz5 hbl.size) _
        have hJH : JHeld (wr.alloc (.cells #[.pointer none, .slice none 0 0] 107)) wr.heap.size kb sb ab bb JB h (xs.map zer) := by
          have k1 := hbl.trans ((Below.refl _ wr).alloc (Nat.le_refl _) (.cells #[.pointer none, .slice none 0 0] 107) |>.mono hbl.size)
          have kk := fun (b : Nat) (o : Obj) (h : w5.heap[b]? = some o) => (k1.block b (Array.getElem?_eq_some_iff.1 h).1).trans h
          have ll := fun (b : Nat) (o : Obj) (h : w5.heap[b]? = some o) => Nat.lt_of_lt_of_le (Array.getElem?_eq_some_iff.1 h).1 hbl.size
          obtain ⟨cu, hcu⟩ := hkind
          have hhl := (Array.getElem?_eq_some_iff.1 hcu).1
          refine ⟨⟨kk _ _ Hsc5.out.1, kk _ _ Hsc5.out.2⟩, kk _ _ HA5.out, kk _ _ HB5.out, kk _ _ HJ5.out, ⟨cu, (heap_alloc_lt hhl).trans hcu⟩, fun i x hi => ?_, ll _ _ Hsc5.out.1, ll _ _ Hsc5.out.2, ll _ _ HA5.out, ll _ _ HB5.out, ll _ _ HJ5.out, hhl⟩
          have hc : ∀ o, (wr.alloc (.cells #[.pointer none, .slice none 0 0] 107)).cell? ⟨h, o, none⟩ = wr.cell? ⟨h, o, none⟩ := fun o => World.cell?_of_block (heap_alloc_lt hhl)
          rw [hc, hc, hc]
          exact hin i x hi
        have HB0 := Lib.hid hB0; have Hbw := Lib.hid hbw; have HJH := Lib.hid hJH
        clear hin hkind hT hbl hB0 hbw hJH Hsc5 HA5 HB5 HJ5
        go_wp2_with fail
        obtain ⟨w8, hw8⟩ : ∃ w8, wr.alloc (.cells #[.pointer none, .slice none 0 0] 107) = w8 := ⟨_, rfl⟩
        obtain ⟨TB, hTB⟩ : ∃ TB, wr.heap.size = TB := ⟨_, rfl⟩
        rw [hw8, hTB] at HB0 HJH
        rw [hw8] at Hbw
        rw [hw8, hTB]
        clear hw8 hTB
        obtain ⟨ys, hys⟩ : ∃ ys, xs.map zer = ys := ⟨_, rfl⟩
        rw [hys] at HB0 HJH
        have hyn : n1 + 1 = ys.length := by rw [← hys, List.length_map]; exact Hn.out
        have hyz : ∀ y ∈ ys, y.pos = 0 ∧ y.text.size ≤ 200 ∧ 0 < y.text.size := by
          intro y hy
          rw [← hys] at hy
          obtain ⟨x, hx, rfl⟩ := List.mem_map.1 hy
          have h1 := firstErr_zero _ HE.out (ckTok x) (List.mem_map.2 ⟨x, hx, rfl⟩)
          exact ⟨rfl, Hsz.out x hx, reads_pos x (ckTok_zero x h1)⟩
        have Hys := Lib.hid hys; have Hyn := Lib.hid hyn; have Hyz := Lib.hid hyz
        clear hys hyn hyz
        go_loopw [9, 10, 41] (fun _ _ i wx => ∃ k : Nat, k ≤ n1 + 1 ∧ i = .int .i64 k ∧ JLoop w w8 TB (joinK ys k) wx) (fun _ _ i _ => n1 + 1 - (intOf i).toNat)
        case atStart => exact ⟨0, Nat.zero_le _, rfl, ⟨HB0.out, Lib.OthersKept.refl _ _ _, Hbw.out⟩⟩
        case round =>
          obtain ⟨k, hk, rfl, hT⟩ := hrel
          by_cases hlt : k < n1 + 1
          · have hky : k < ys.length := by have := Hyn.out; omega
            have H := HJH.out.kept hT.kept
            obtain ⟨a0, a1, a2⟩ := H.toks k ys[k] (List.getElem?_eq_getElem hky)
            simp only [Nat.zero_add] at a0 a1 a2
            obtain ⟨z0, z1, z2⟩ := Hyz.out ys[k] (List.getElem_mem hky)
            have hTx := Lib.hid (show txtK ys k = ys[k].text.data.toList by unfold txtK; rw [List.getElem?_eq_getElem hky])
            obtain ⟨y, hyk⟩ : ∃ y, ys[k] = y := ⟨_, rfl⟩
            rw [hyk] at a0 a1 a2 z0 z1 z2 hTx
            have Hyk := Lib.hid hyk
            clear hyk
            obtain ⟨kd, tx, ps⟩ := y
            simp only at a0 a1 a2 z0 z1 z2 hTx
            subst z0
            have hbr := hT.below.size
            have HT := Lib.hid hT; have HH := Lib.hid H
            clear hT H
            rcases Nat.eq_zero_or_pos k with rfl | hk0
            · go_wp2_with fail
              go_quiet (fail)
              have HM := Lib.hid (HT.out.later (below_drewN ((Below.refl _ wr).alloc (Nat.le_refl _) (.cells #[.int .i64 kd, .string tx, .int .i64 0] 59)) nq))
              have hlen := joinK_le ys (fun y hy => (Hyz.out y hy).2.1) 0
              have CW := Lib.hid (Tryd.Builder_WriteString_k w.heap.size TB (Lib.byteCells (joinK ys 0)) tx _ HM.out.text (by rw [byteCells_len]; simp [joinK]; omega) HM.out.below.size)
              go_wp2_with fail
              refine CW.out.mono ?_; rintro e w12 ⟨rfl, hw12⟩
              have HN := Lib.hid (HM.out.wrote (l' := joinK ys (0 + 1)) (by rw [strCells_bytes]; congr 1; simp [joinK, sepK, hTx.out]) hw12)
              clear hw12 CW
              have CL := Lib.hid (Tryd.Builder_Len_f w.heap.size TB _ w12 HN.out.text)
              have hlen2 := joinK_le ys (fun y hy => (Hyz.out y hy).2.1) (0 + 1)
              obtain ⟨N, hN⟩ : ∃ N, (Lib.byteCells (joinK ys (0 + 1))).length = N := ⟨_, rfl⟩
              rw [hN] at CL
              have dN : decide ((65536 : Int) < (N : Int)) = false := decide_eq_false (by rw [← hN, byteCells_len]; omega)
              clear hN hlen2 hlen
              go_wp2_with fail
              refine CL.out.mono ?_; rintro e w13 ⟨rfl, rfl⟩
              clear CL
              go_wp2
              go_roundw
              case rel =>
                refine ⟨_, _, _, _, _, _, _, _, _, _, _, _, _, _, _, _, _, _, _, _, _, _, _, _, _, _, _, _, _, ⟨0 + 1, by omega, ?_, HN.out⟩, rfl⟩
                go_num
              case measure => first | (simp [intOf]; done) | (simp [intOf]; omega)
            · have a0' := a0; have a1' := a1; have a2' := a2
              obtain ⟨k', rfl⟩ : ∃ k', k = k' + 1 := ⟨k - 1, by omega⟩
              have hkp : k' < ys.length := by omega
              obtain ⟨b0, b1, b2⟩ := HH.out.toks k' ys[k'] (List.getElem?_eq_getElem hkp)
              simp only [Nat.zero_add] at b0 b1 b2
              obtain ⟨q0, q1, q2⟩ := Hyz.out ys[k'] (List.getElem_mem hkp)
              have hsep : sepK ys (k' + 1) = if spcB ys[k'] ⟨kd, tx, 0⟩ = true then [32] else [] := by
                simp only [sepK]
                rw [List.getElem?_eq_getElem hkp, List.getElem?_eq_getElem hky, Hyk.out]
              obtain ⟨pv, hpv⟩ : ∃ p, ys[k'] = p := ⟨_, rfl⟩
              rw [hpv] at b0 b1 b2 q0 q1 q2 hsep
              obtain ⟨pk, pt, pp⟩ := pv
              simp only at b0 b1 b2 q0 q1 q2
              subst q0
              clear hpv
              have hW := (Below.refl _ wr).alloc (Nat.le_refl _) (.cells #[.int .i64 kd, .string tx, .int .i64 0] 59)
              have H1 := HH.out
              have hhl : h < wr.heap.size := World.block_lt_of_cell? _ _ b0
              have hjl : JB < wr.heap.size := (Array.getElem?_eq_some_iff.1 H1.join).1
              have hjo : (wr.alloc (.cells #[.int .i64 kd, .string tx, .int .i64 0] 59)).heap[JB]? = some (.cells #[.map (some kb), .map (some sb), .map (some ab), .map (some bb)] 99 (0, 0)) := (heap_alloc_lt hjl).trans H1.join
              have j0 : (wr.alloc (.cells #[.int .i64 kd, .string tx, .int .i64 0] 59)).cell? ⟨JB, 0, none⟩ = some (.map (some kb)) := by simp only [World.cell?, hjo]; rfl
              have j1 : (wr.alloc (.cells #[.int .i64 kd, .string tx, .int .i64 0] 59)).cell? ⟨JB, 1, none⟩ = some (.map (some sb)) := by simp only [World.cell?, hjo]; rfl
              have j2 : (wr.alloc (.cells #[.int .i64 kd, .string tx, .int .i64 0] 59)).cell? ⟨JB, 2, none⟩ = some (.map (some ab)) := by simp only [World.cell?, hjo]; rfl
              have j3 : (wr.alloc (.cells #[.int .i64 kd, .string tx, .int .i64 0] 59)).cell? ⟨JB, 3, none⟩ = some (.map (some bb)) := by simp only [World.cell?, hjo]; rfl
              have p0 := (hW.cell (p := ⟨h, k' * 3, none⟩) hhl).trans b0
              have p1 := (hW.cell (p := ⟨h, k' * 3 + 1, none⟩) hhl).trans b1
              have p2 := (hW.cell (p := ⟨h, k' * 3 + 2, none⟩) hhl).trans b2
              have t0 : (wr.alloc (.cells #[.int .i64 kd, .string tx, .int .i64 0] 59)).cell? ⟨wr.heap.size, 0, none⟩ = some (.int .i64 kd) := by simp
              have t1 : (wr.alloc (.cells #[.int .i64 kd, .string tx, .int .i64 0] 59)).cell? ⟨wr.heap.size, 1, none⟩ = some (.string tx) := by simp
              have t2 : (wr.alloc (.cells #[.int .i64 kd, .string tx, .int .i64 0] 59)).cell? ⟨wr.heap.size, 2, none⟩ = some (.int .i64 0) := by simp
              have HM0 := Lib.hid (HT.out.later hW)
              have H2 : JHeld (wr.alloc (.cells #[.int .i64 kd, .string tx, .int .i64 0] 59)) TB kb sb ab bb JB h ys := HJH.out.kept HM0.out.kept
              have hm2 : (wr.alloc (.cells #[.int .i64 kd, .string tx, .int .i64 0] 59)).cell? ⟨2, 0, none⟩ = some (.int .i64 m) := (HM0.out.below.cell (p := ⟨2, 0, none⟩) hw2).trans Hm.out
              have CS := Lib.hid (fun W' h1 h2 h3 h4 => spaced_any pk pt kd tx (by omega) z2 kb sb ab bb m W' h1 h2 h3 h4)
              obtain ⟨S, hS⟩ : ∃ S, spcB ⟨pk, pt, 0⟩ ⟨kd, tx, 0⟩ = S := ⟨_, rfl⟩
              rw [hS] at CS hsep
              have Hsep := Lib.hid hsep
              clear hsep hS b0 b1 b2 hW H1 hjo
              have hgt : decide ((0 : Int) < (k' : Int) + 1) = true := decide_eq_true (by omega)
              have kb1 : (0 : Int) ≤ (k' : Int) := by omega
              have kb2 : (k' : Int) < (n1 : Int) + 1 := by omega
              have kb3 : (k' : Int) ≤ (n1 : Int) + 1 := by omega
              have kb4 : k' < n1 + 1 := by omega
              have kw1 : IntKind.i64.wrap ((k' : Int) + 1 - 1) = (k' : Int) := by rw [show (k' : Int) + 1 - 1 = (k' : Int) by omega]; exact IntWalk.i64_in _ (by omega)
              have kw2 : IntKind.i64.wrap (k' : Int) = (k' : Int) := IntWalk.i64_in _ (by omega)
              go_wp2_with fail
              go_region_held3 (fun w' => w'.cell? ⟨JB, 0, none⟩ = some (.map (some kb)) ∧ w'.cell? ⟨JB, 1, none⟩ = some (.map (some sb)) ∧ w'.cell? ⟨JB, 2, none⟩ = some (.map (some ab)) ∧ w'.cell? ⟨JB, 3, none⟩ = some (.map (some bb)) ∧ w'.cell? ⟨h, k' * 3, none⟩ = some (.int .i64 pk) ∧ w'.cell? ⟨h, k' * 3 + 1, none⟩ = some (.string pt) ∧ w'.cell? ⟨h, k' * 3 + 2, none⟩ = some (.int .i64 0) ∧ w'.cell? ⟨wr.heap.size, 0, none⟩ = some (.int .i64 kd) ∧ w'.cell? ⟨wr.heap.size, 1, none⟩ = some (.string tx) ∧ w'.cell? ⟨wr.heap.size, 2, none⟩ = some (.int .i64 0)) (first | exact ⟨hq0, hq1, hq2, hq3, hq4, hq5, hq6, hq7, hq8, hq9⟩ | exact ⟨j0, j1, j2, j3, p0, p1, p2, t0, t1, t2⟩ | go_keep)
                (first | (go_at_call 61; refine (CS.out _ (by exact H2.scan) (by exact H2.aft) (by exact H2.bef) (by exact hm2)).mono ?_; rintro e w4' ⟨rfl, hb4⟩; have hq0 := cell_later hb4 j0; have hq1 := cell_later hb4 j1; have hq2 := cell_later hb4 j2; have hq3 := cell_later hb4 j3; have hq4 := cell_later hb4 p0; have hq5 := cell_later hb4 p1; have hq6 := cell_later hb4 p2; have hq7 := cell_later hb4 t0; have hq8 := cell_later hb4 t1; have hq9 := cell_later hb4 t2))
              have tb4 := ((below_undrew hb4).block _ (by simp)).trans (heap_alloc_at wr (.cells #[.int .i64 kd, .string tx, .int .i64 0] 59))
              have HM1 := Lib.hid (HM0.out.later (below_undrew hb4))
              have hTBl := builder_lt HT.out.text
              clear hb4 hq0 hq1 hq2 hq3 hq4 hq5 hq6 hq7 hq8 hq9
              rename_i hHeld
              clear hHeld
              clear CS H2 hm2 j0 j1 j2 j3 p0 p1 p2 t0
              cases S with
              | false =>
                have HM := HM1
                have t1' : w4'.cell? ⟨wr.heap.size, 1, none⟩ = some (.string tx) := by simp only [World.cell?, tb4]; rfl
                clear tb4
                have hlen := joinK_le ys (fun y hy => (Hyz.out y hy).2.1) (k' + 1)
                have CW := Lib.hid (Tryd.Builder_WriteString_k w.heap.size TB (Lib.byteCells (joinK ys (k' + 1))) tx _ HM.out.text (by rw [byteCells_len]; omega) HM.out.below.size)
                go_wp2_with fail
                refine CW.out.mono ?_; rintro e w12 ⟨rfl, hw12⟩
                have HN := Lib.hid (HM.out.wrote (l' := joinK ys (k' + 1 + 1)) (by rw [strCells_bytes]; congr 1; rw [show joinK ys (k' + 1 + 1) = joinK ys (k' + 1) ++ sepK ys (k' + 1) ++ txtK ys (k' + 1) from rfl, Hsep.out, hTx.out]; simp) hw12)
                clear hw12 CW
                have CL := Lib.hid (Tryd.Builder_Len_f w.heap.size TB _ w12 HN.out.text)
                have hlen2 := joinK_le ys (fun y hy => (Hyz.out y hy).2.1) (k' + 1 + 1)
                obtain ⟨N, hN⟩ : ∃ N, (Lib.byteCells (joinK ys (k' + 1 + 1))).length = N := ⟨_, rfl⟩
                rw [hN] at CL
                have dN : decide ((65536 : Int) < (N : Int)) = false := decide_eq_false (by rw [← hN, byteCells_len]; omega)
                clear hN hlen2 hlen
                go_wp2_with fail
                refine CL.out.mono ?_; rintro e w13 ⟨rfl, rfl⟩
                clear CL
                go_wp2
                go_roundw
                case rel =>
                  refine ⟨_, _, _, _, _, _, _, _, _, _, _, _, _, _, _, _, _, _, _, _, _, _, _, _, _, _, _, _, _, ⟨k' + 1 + 1, by omega, ?_, HN.out⟩, rfl⟩
                  go_num
                case measure => first | (simp [intOf]; done) | (simp [intOf]; omega)
              | true =>
                have CB := Lib.hid (Tryd.Builder_WriteByte_k w.heap.size TB (Lib.byteCells (joinK ys (k' + 1))) 32 _ HM1.out.text (by rw [byteCells_len]; have := joinK_le ys (fun y hy => (Hyz.out y hy).2.1) (k' + 1); omega) HM1.out.below.size)
                go_wp2_with fail
                refine CB.out.mono ?_; rintro e w11 ⟨rfl, hw11⟩
                have HM := Lib.hid (HM1.out.wrote (l' := joinK ys (k' + 1) ++ [32]) (byteCells_snoc _) hw11)
                have tb5 := hw11.2.2 _ _ tb4 (by intro e; cases e; omega) (fun c fz e => by cases e)
                have t1' : w11.cell? ⟨wr.heap.size, 1, none⟩ = some (.string tx) := by simp only [World.cell?, tb5]; rfl
                clear tb4 tb5
                clear hw11 CB
                have hlen := joinK_le ys (fun y hy => (Hyz.out y hy).2.1) (k' + 1)
                have CW := Lib.hid (Tryd.Builder_WriteString_k w.heap.size TB (Lib.byteCells (joinK ys (k' + 1) ++ [32])) tx _ HM.out.text (by rw [byteCells_len]; simp; omega) HM.out.below.size)
                go_wp2_with fail
                refine CW.out.mono ?_; rintro e w12 ⟨rfl, hw12⟩
                have HN := Lib.hid (HM.out.wrote (l' := joinK ys (k' + 1 + 1)) (by rw [strCells_bytes]; congr 1; rw [show joinK ys (k' + 1 + 1) = joinK ys (k' + 1) ++ sepK ys (k' + 1) ++ txtK ys (k' + 1) from rfl, Hsep.out, hTx.out]; simp) hw12)
                clear hw12 CW
                have CL := Lib.hid (Tryd.Builder_Len_f w.heap.size TB _ w12 HN.out.text)
                have hlen2 := joinK_le ys (fun y hy => (Hyz.out y hy).2.1) (k' + 1 + 1)
                obtain ⟨N, hN⟩ : ∃ N, (Lib.byteCells (joinK ys (k' + 1 + 1))).length = N := ⟨_, rfl⟩
                rw [hN] at CL
                have dN : decide ((65536 : Int) < (N : Int)) = false := decide_eq_false (by rw [← hN, byteCells_len]; omega)
                clear hN hlen2 hlen
                go_wp2_with fail
                refine CL.out.mono ?_; rintro e w13 ⟨rfl, rfl⟩
                clear CL
                go_wp2
                go_roundw
                case rel =>
                  refine ⟨_, _, _, _, _, _, _, _, _, _, _, _, _, _, _, _, _, _, _, _, _, _, _, _, _, _, _, _, _, ⟨k' + 1 + 1, by omega, ?_, HN.out⟩, rfl⟩
                  go_num
                case measure => first | (simp [intOf]; done) | (simp [intOf]; omega)
          · have hkn : k = n1 + 1 := by omega
            subst hkn
            have C := Lib.hid (Tryd.Builder_String_any_k w.heap.size TB (joinK ys (n1 + 1)) wr hT.text hT.below.size)
            have Hbl := Lib.hid hT.below
            clear hT
            go_wp2_with fail
            refine C.out.mono ?_; rintro e w9 ⟨rfl, _, hb9, _⟩
            have HB9 := Lib.hid (Hbl.out.trans hb9)
            clear hb9 C
            go_wp2
            refine bodyPost_ret (v := .tuple #[.string ⟨(joinK ys (n1 + 1)).toArray⟩, .int .i64 0]) ?_ rfl ?_
            · simp [results, Tryd.results30, go_sem]
            · exact ⟨by unfold joinOut; rw [HE.out, if_neg (by simp), Hys.out, ← Hn.out], HB9.out⟩
  · have dE : (E != 0) = true := by simpa using h0
    have hfo : Tryd.prog.follows Departure.mixedOrders = true := by kernel_rfl
    go_wp2
    refine bodyPost_ret (v := .tuple #[.string ⟨#[]⟩, .int .i64 E]) ?_ rfl ?_
    · simp [results, Tryd.results30, go_sem]
    · exact ⟨by unfold joinOut; rw [HE.out, if_pos h0], Hb5.out⟩
end Go.Proofs.YtokdoklkaojheaaDoor

namespace Go.Proofs.YtokdoklkaojheaaDoor
open Go.RowKit Go.Shelf
set_option maxHeartbeats 2000000 in
set_option maxRecDepth 100000 in
theorem transform_nil (fv : Value) (w : World) :
    Calls Tryd.prog 58 #[.slice none 0 0, fv] w fun e w' => ∃ g, e = .returned (.slice (some ⟨g, 0, none⟩) 0 0) ∧ Below w.heap.size w w' := by
  obtain ⟨i0, hi, hz0, hz1, hz2⟩ := info_parts Tryd.info27
  obtain ⟨w1, hmk1, hown1, hgr1⟩ := run_makeSlice_owned (P := Tryd.prog) w w.heap.size 100 27 i0 (.int .i64 0) 1 Tryd.underlying100 hi hz0 hz1 .i64 .i64 0 (by omega) (by rw [hz2]; omega) (by unfold maxLen; omega) (Nat.le_refl _)
  simp only [Int.natCast_zero, Int.ofNat_eq_natCast] at hmk1
  have HB := Lib.hid ((Below.refl _ w).grown hgr1 (Nat.le_refl _) (fun j hj => by cases hj))
  clear hown1 hgr1
  go_enter Tryd.func58, Tryd.ntmps58
  go_wp2_with fail
  go_loopw [5, 13] (fun v i wr => v = .slice (some ⟨w.heap.size, 0, none⟩) 0 0 ∧ i = .int .i64 0 ∧ wr = w1) (fun _ _ _ => 0)
  case atStart => exact ⟨rfl, rfl, rfl⟩
  case round =>
    obtain ⟨rfl, rfl, rfl⟩ := hrel
    go_wp2
    go_ret
    exact ⟨_, rfl, HB.out⟩

set_option maxHeartbeats 4000000 in
set_option maxRecDepth 100000 in
theorem join_nil (m : Int) (w : World) (ht : Tab w) (hm : w.cell? ⟨2, 0, none⟩ = some (.int .i64 m)) :
    Calls Tryd.prog 30 #[.slice none 0 0] w fun e w' => e = .returned (.tuple #[.string ⟨#[]⟩, .int .i64 0]) ∧ Below w.heap.size w w' := by
  have Ht := Lib.hid ht; have Hm := Lib.hid hm
  clear ht hm
  go_enter Tryd.func30, Tryd.ntmps30
  go_wp2_with fail
  refine (newScanner_any _ Ht.out).mono ?_; rintro e w1 ⟨kb, sb, rfl, hsc, hkb, hsb, hb1⟩
  have Hb1 := Lib.hid hb1; have Hsc := Lib.hid hsc; clear hb1 hsc
  go_wp2_with fail
  refine (wordSet_any _ afterL _ (by decide +kernel) (ascii_of _ (by decide +kernel)) (by decide +kernel) afterL_nodup (by decide +kernel) (Ht.out.below Hb1.out)).mono ?_; rintro e w2 ⟨rfl, hw2⟩
  have hA2 : w2.heap[w1.heap.size + 1]? = some (setObjOf afterL) := by rw [hw2]; exact heap_alloc_at' _ _ _ (by simp)
  have hb2 : Below w1.heap.size w1 w2 := by rw [hw2]; exact below_two w1 _ _
  have HA2 := Lib.hid hA2; have Hb2 := Lib.hid (Hb1.out.trans (hb2.mono Hb1.out.size)); have Hsc2 := Lib.hid (Hsc.out.below Hsc.out.lt.1 Hsc.out.lt.2 hb2)
  clear hA2 hb2 hw2
  go_wp2_with fail
  refine (wordSet_any _ beforeL _ (by decide +kernel) (ascii_of _ (by decide +kernel)) (by decide +kernel) beforeL_nodup (by decide +kernel) (Ht.out.below Hb2.out)).mono ?_; rintro e w3 ⟨rfl, hw3⟩
  have hb3 : Below w2.heap.size w2 w3 := by rw [hw3]; exact below_two w2 _ _
  have HB3 := Lib.hid (show w3.heap[w2.heap.size + 1]? = some (setObjOf beforeL) by rw [hw3]; exact heap_alloc_at' _ _ _ (by simp))
  have HA3 := Lib.hid ((hb3.block _ (Array.getElem?_eq_some_iff.1 HA2.out).1).trans HA2.out)
  have Hb3 := Lib.hid (Hb2.out.trans (hb3.mono Hb2.out.size)); have Hsc3 := Lib.hid (Hsc2.out.below Hsc2.out.lt.1 Hsc2.out.lt.2 hb3)
  clear hb3 hw3 HA2 Hsc Hsc2 Hb2
  obtain ⟨ab, hab⟩ : ∃ ab, w1.heap.size + 1 = ab := ⟨_, rfl⟩
  obtain ⟨bb, hbb⟩ : ∃ bb, w2.heap.size + 1 = bb := ⟨_, rfl⟩
  rw [hab] at HA3 ⊢
  rw [hbb] at HB3 ⊢
  clear hab hbb
  have hJ4 : (w3.alloc (.cells #[.map (some kb), .map (some sb), .map (some ab), .map (some bb)] 99)).heap[w3.heap.size]? = some (.cells #[.map (some kb), .map (some sb), .map (some ab), .map (some bb)] 99 (0, 0)) := heap_alloc_at _ _
  have hz34 : w3.heap.size < (w3.alloc (.cells #[.map (some kb), .map (some sb), .map (some ab), .map (some bb)] 99)).heap.size := by simp
  have hb34 := (Below.refl _ w3).alloc (Nat.le_refl _) (.cells #[.map (some kb), .map (some sb), .map (some ab), .map (some bb)] 99)
  have Hb4 := Lib.hid (Hb3.out.trans (hb34.mono Hb3.out.size))
  have Hsc4 := Lib.hid (Hsc3.out.below Hsc3.out.lt.1 Hsc3.out.lt.2 hb34)
  have HA4 := Lib.hid ((hb34.block _ (Array.getElem?_eq_some_iff.1 HA3.out).1).trans HA3.out)
  have HB4 := Lib.hid ((hb34.block _ (Array.getElem?_eq_some_iff.1 HB3.out).1).trans HB3.out)
  have Hz34 := Lib.hid hz34; have HJ4 := Lib.hid hJ4
  clear hJ4 hz34 hb34 Hsc3 HA3 HB3 Hb3
  go_wp2_with fail
  refine (transform_nil _ _).mono ?_; rintro e w5 ⟨ge, rfl, hb5⟩
  have Hb5 := Lib.hid (Hb4.out.trans (hb5.mono Hb4.out.size))
  have C5 := Lib.hid (firstError_any ge [] 0 0 w5 rfl (by omega) (fun i hi => by omega))
  clear hb5 Hsc4 HA4 HB4 HJ4 Hz34 Hb4
  go_wp2_with fail
  refine C5.out.mono ?_; rintro e w6 ⟨rfl, rfl⟩
  clear C5
  simp only [firstErr]
  go_wp2_with fail
  refine (clone_nil w5).mono ?_; rintro e w7 ⟨rfl, rfl⟩
  go_wp2_with fail
  go_loopw [7, 31] (fun _ i wr => i = .int .i64 0 ∧ wr = w5) (fun _ _ _ => 0)
  case atStart => exact ⟨rfl, rfl⟩
  case round =>
    obtain ⟨rfl, rfl⟩ := hrel
    go_wp2_with fail
    have HB0 := Lib.hid (builder_new wr w.heap.size Hb5.out.size)
    have Hbw := Lib.hid (Hb5.out.alloc Hb5.out.size (.cells #[.pointer none, .slice none 0 0] 107))
    obtain ⟨w8, hw8⟩ : ∃ w8, wr.alloc (.cells #[.pointer none, .slice none 0 0] 107) = w8 := ⟨_, rfl⟩
    rw [hw8] at HB0 Hbw ⊢
    clear hw8
    have C := Lib.hid (Tryd.Builder_String_any_k w.heap.size wr.heap.size [] w8 HB0.out Hbw.out.size)
    go_loopw [9, 10, 41] (fun _ _ i wx => i = .int .i64 0 ∧ wx = w8) (fun _ _ _ _ => 0)
    case atStart => exact ⟨rfl, rfl⟩
    case round =>
      obtain ⟨rfl, rfl⟩ := hrel
      go_wp2_with fail
      refine C.out.mono ?_; rintro e w9 ⟨rfl, _, hb9, _⟩
      have HB9 := Lib.hid (Hbw.out.trans hb9)
      clear hb9 C
      go_wp2
      refine bodyPost_ret (v := .tuple #[.string ⟨#[]⟩, .int .i64 0]) ?_ rfl ?_
      · simp [results, Tryd.results30, go_sem]
      · exact ⟨rfl, HB9.out⟩
end Go.Proofs.YtokdoklkaojheaaDoor

namespace Go.Proofs.YtokdoklkaojheaaDoor
open Go.ChangeShapes Go.WideShapes Go.RowKit

set_option maxRecDepth 100000 in
theorem open_tokens {H : Type} {enc : TypeId × Value → H} {W : World} {b0 : Nat} {v : Value} {d : DataW H} {ps : List MemPlace}
    (hv : Value.okWide Tryd.prog W .any b0 23 v) (h : DataW.Trod enc Tryd.prog W 0 (fun _ => true) true 23 v d ps) :
    (∃ a c, v = .slice a 0 c) ∨ ∃ b o n c xs, v = .slice (some ⟨b, o, none⟩) n c ∧ n = xs.length ∧ n ≤ 9223372036854775807 ∧ tksAt W b o xs ∧ b < W.heap.size := by
  obtain ⟨a0, len, cap, rfl⟩ := okWide_slice Tryd.underlying23 hv
  obtain ⟨fuel, hf⟩ := h
  rcases Go.Deep.open_slice Tryd.underlying23 hf with ⟨hcs, _⟩ | ⟨a, len', cap', m, n, D, Pl, hcs, hb, hl, hm, hmm, hx, hel⟩
  · left
    simp [Value.cells] at hcs
    obtain ⟨rfl, rfl, rfl⟩ := hcs
    exact ⟨_, _, rfl⟩
  · simp [Value.cells] at hcs
    obtain ⟨rfl, rfl, rfl⟩ := hcs
    rcases Nat.eq_zero_or_pos len with rfl | hpos
    · exact .inl ⟨_, _, rfl⟩
    have e3 : Tryd.prog.cellsOf 61 = 3 := by kernel_rfl
    have ei : Tryd.prog.cellsOf 3 = 1 := by kernel_rfl
    have es : Tryd.prog.cellsOf 9 = 1 := by kernel_rfl
    have each : ∀ i, i < len → ∃ x : Tk, W.cell? (a.add (i * 3)) = some (.int .i64 x.kind) ∧ W.cell? (a.add (i * 3 + 1)) = some (.string x.text) ∧ W.cell? (a.add (i * 3 + 2)) = some (.int .i64 x.pos) := by
      intro i hi
      obtain ⟨cs', h1, h2⟩ := hel i (by rw [hmm]; split <;> omega)
      rw [e3] at h1
      obtain ⟨_, hlen, hcell⟩ := World.cells?_some h1
      obtain ⟨ys, k, hk, hxy, _, hxl, hfs⟩ := DataW.trod_struct Tryd.underlying61 h2
      match ys, hxl, cs', hlen with
      | [y0, y1, y2], _, [v0, v1, v2], _ =>
        have g0 := hfs 0 _ rfl
        have g1 := hfs 1 _ rfl
        have g2 := hfs 2 _ rfl
        simp [ei, es] at g0 g1 g2
        obtain ⟨k0, q0, _, _⟩ := DataW.trod_int Tryd.underlying3 g0
        obtain ⟨s1, q1, _, _⟩ := DataW.trod_string Tryd.underlying9 g1
        obtain ⟨k2, q2, _, _⟩ := DataW.trod_int Tryd.underlying3 g2
        simp at q0 q1 q2
        subst q0 q1 q2
        have f0 := hcell 0 (by omega)
        have f1 := hcell 1 (by omega)
        have f2 := hcell 2 (by omega)
        rw [Go.Deep.add_add] at f0 f1 f2
        exact ⟨⟨k0, s1, k2⟩, by simpa using f0, by simpa using f1, by simpa using f2⟩
    obtain ⟨b, o, spot⟩ := a
    have hspot : spot = none := by
      obtain ⟨x, hx0, _⟩ := each 0 hpos
      simpa [Addr.add] using World.cell?_spot hx0
    subst hspot
    obtain ⟨f, hfx⟩ : ∃ f : Nat → Tk, ∀ i, i < len → (W.cell? ((⟨b, o, none⟩ : Addr).add (i * 3)) = some (.int .i64 (f i).kind) ∧ W.cell? ((⟨b, o, none⟩ : Addr).add (i * 3 + 1)) = some (.string (f i).text) ∧ W.cell? ((⟨b, o, none⟩ : Addr).add (i * 3 + 2)) = some (.int .i64 (f i).pos)) := by
      classical
      exact ⟨fun i => if hi : i < len then Classical.choose (each i hi) else ⟨0, ⟨#[]⟩, 0⟩, fun i hi => by simp only [dif_pos hi]; exact Classical.choose_spec (each i hi)⟩
    have ea : ∀ j, (⟨b, o, none⟩ : Addr).add j = ⟨b, o + j, none⟩ := by
      intro j
      by_cases h0 : j = 0
      · subst h0; simp [Addr.add]
      · simp [Addr.add, h0]
    refine .inr ⟨b, o, len, cap, (List.range len).map f, rfl, by simp, ?_, ?_, ?_⟩
    · have : cap ≤ Go.maxLen := hm
      unfold Go.maxLen at this
      omega
    · intro i x hi
      have hil : i < len := by
        have := (List.getElem?_eq_some_iff.1 hi).1
        simpa using this
      have hxe : x = f i := by
        rw [List.getElem?_map, List.getElem?_range hil] at hi
        exact (Option.some.inj hi).symm
      subst hxe
      have := hfx i hil
      rw [ea, ea, ea] at this
      exact this
    · obtain ⟨x, hx0, _⟩ := each 0 hpos
      rw [ea] at hx0
      exact World.block_lt_of_cell? _ _ hx0
end Go.Proofs.YtokdoklkaojheaaDoor

namespace Go.Proofs.YtokdoklkaojheaaDoor
open Go.RowKit

/-! what stands behind a token does not change how it is read -/
def stopL : List UInt8 := [32, 41, 93, 44, 59, 46, 63, 91]

theorem tw_app (p : UInt8 → Bool) (r : List UInt8) (h : ∀ c r', r = c :: r' → p c = false) : ∀ t : List UInt8, tw p (t ++ r) = tw p t
  | [] => by
    cases r with
    | nil => rfl
    | cons c r' => rw [List.nil_append, tw_cons, if_neg (by rw [h c r' rfl]; decide)]; rfl
  | a :: t => by
    rw [List.cons_append, tw_cons, tw_cons, tw_app p r h t]

theorem stop_word (c : UInt8) (h : c ∈ stopL) : isWordB c = false := by
  simp only [stopL, List.mem_cons, List.not_mem_nil, or_false] at h
  rcases h with rfl | rfl | rfl | rfl | rfl | rfl | rfl | rfl <;> decide
theorem stop_let (c : UInt8) (h : c ∈ stopL) : isLetB c = false := by
  simp only [stopL, List.mem_cons, List.not_mem_nil, or_false] at h
  rcases h with rfl | rfl | rfl | rfl | rfl | rfl | rfl | rfl <;> decide
theorem stop_dig (c : UInt8) (h : c ∈ stopL) : isDigB c = false := by
  simp only [stopL, List.mem_cons, List.not_mem_nil, or_false] at h
  rcases h with rfl | rfl | rfl | rfl | rfl | rfl | rfl | rfl <;> decide
theorem stop_colon (c : UInt8) (h : c ∈ stopL) : c ≠ 58 := by
  rintro rfl
  exact absurd h (by decide)

/-- what may stand behind a token: nothing, or a sign that ends it -/
structure Ends (t r : List UInt8) : Prop where
  stop : ∀ c r', r = c :: r' → c ∈ stopL
  dot : ∀ r', r = 46 :: r' → t ≠ [46] ∧ tw isDigB r' = 0

theorem drop_app (t r : List UInt8) (n : Nat) (hn : n ≤ t.length) : (t ++ r).drop n = t.drop n ++ r := List.drop_append_of_le_length hn
theorem take_app (u r : List UInt8) (n : Nat) (hn : n ≤ u.length) : (u ++ r).take n = u.take n := List.take_append_of_le_length hn

theorem sg_inner : ∀ l ∈ sgwL, ∀ c ∈ stopL, ∀ i, 1 ≤ i → l[i]? = some c → l = [46, 46] := by
  have : ∀ l ∈ sgwL, ∀ c ∈ stopL, ∀ i, i < 5 → 1 ≤ i → l[i]? = some c → l = [46, 46] := by decide +kernel
  intro l hl c hc i h1 hi
  have hlen : ∀ l ∈ sgwL, l.length < 5 := by decide +kernel
  have hlt := (List.getElem?_eq_some_iff.1 hi).1
  have h5 := hlen l hl
  exact this l hl c hc i (by omega) h1 hi

section
variable {t r : List UInt8} (h : Ends t r)
include h
theorem ends_word (u : List UInt8) : tw isWordB (u ++ r) = tw isWordB u := tw_app _ r (fun c r' e => stop_word c (h.stop c r' e)) u
theorem ends_let_ (u : List UInt8) : tw isLetB (u ++ r) = tw isLetB u := tw_app _ r (fun c r' e => stop_let c (h.stop c r' e)) u
theorem ends_dig (u : List UInt8) : tw isDigB (u ++ r) = tw isDigB u := tw_app _ r (fun c r' e => stop_dig c (h.stop c r' e)) u
theorem ends_wlen (u : List UInt8) : wlen (u ++ r) = wlen u := by
  unfold wlen
  rw [ends_word h, ends_let_ h]
theorem ends_colons (u : List UInt8) : Lib.hasPrefix (u ++ r) [58, 58] = Lib.hasPrefix u [58, 58] := by
  unfold Lib.hasPrefix
  match u with
  | [] =>
    cases hr : r with
    | nil => rfl
    | cons c r' =>
      have := stop_colon c (h.stop c r' hr)
      simp [List.isPrefixOf, this.symm]
  | [a] =>
    cases hr : r with
    | nil => rfl
    | cons c r' =>
      have := stop_colon c (h.stop c r' hr)
      simp [List.isPrefixOf, this.symm]
  | a :: b :: u' => simp [List.isPrefixOf]

theorem ends_qual (h0 : t ≠ []) : qualR (t ++ r) = qualR t := by
  have hw := wlen_le t
  have hg : (t ++ r).getD 0 0 = t.getD 0 0 := by
    cases t with
    | nil => exact absurd rfl h0
    | cons a t => rfl
  have hq : qualIn (t ++ r) (wlen (t ++ r)) = qualIn t (wlen t) := by
    unfold qualIn
    rw [ends_wlen h, hg, drop_app _ _ _ hw, ends_colons h]
  unfold qualR
  rw [hq, ends_wlen h]
  by_cases hc : qualIn t (wlen t) = false
  · rw [if_pos hc, if_pos hc]
  · rw [if_neg hc, if_neg hc]
    have hp : Lib.hasPrefix (t.drop (wlen t)) [58, 58] = true := by
      have : qualIn t (wlen t) = true := by simpa using hc
      unfold qualIn at this
      rw [Bool.and_eq_true] at this
      exact this.2
    have hl : wlen t + 2 ≤ t.length := by
      unfold Lib.hasPrefix at hp
      have := (List.isPrefixOf_iff_prefix.1 hp).length_le
      rw [List.length_drop] at this
      simp at this
      omega
    rw [drop_app _ _ _ hl, ends_wlen h, take_app _ _ _ (wlen_le _)]

theorem ends_wordR : wordR (t ++ r) = wordR t := by
  unfold wordR
  rw [ends_wlen h, take_app _ _ _ (wlen_le t)]

theorem ends_numEnd : numEnd (t ++ r) = numEnd t := by
  have hd := tw_le isDigB t
  have hdr : (t ++ r).drop (tw isDigB t) = t.drop (tw isDigB t) ++ r := drop_app _ _ _ hd
  unfold numEnd numDot numRest
  rw [ends_dig h, hdr]
  cases hu : t.drop (tw isDigB t) with
  | nil =>
    rw [List.nil_append]
    have hn : ¬ (Lib.hasPrefix ([] : List UInt8) [46] = true ∧ 0 < tw isDigB (Lib.trimPrefix ([] : List UInt8) [46])) := fun x => absurd x.1 (by decide)
    have hq : ¬ (Lib.hasPrefix r [46] = true ∧ 0 < tw isDigB (Lib.trimPrefix r [46])) := by
      rintro ⟨x, y⟩
      cases hr : r with
      | nil => rw [hr] at x; exact absurd x (by decide)
      | cons c r' =>
        rw [hr] at x y
        by_cases hc : c = 46
        · subst hc
          have h2 := (h.dot r' hr).2
          have h3 : Lib.trimPrefix (46 :: r') [46] = r' := by simp [Lib.trimPrefix, Lib.hasPrefix, List.isPrefixOf]
          rw [h3, h2] at y
          omega
        · have h3 : Lib.hasPrefix (c :: r') [46] = false := by simp [Lib.hasPrefix, List.isPrefixOf, Ne.symm hc]
          rw [h3] at x
          cases x
    rw [if_neg hn, if_neg hq]
  | cons a u =>
    have h1 : Lib.hasPrefix (a :: u ++ r) [46] = Lib.hasPrefix (a :: u) [46] := by simp [Lib.hasPrefix, List.isPrefixOf]
    have h2 : tw isDigB (Lib.trimPrefix (a :: u ++ r) [46]) = tw isDigB (Lib.trimPrefix (a :: u) [46]) := by
      by_cases hc : a = 46
      · subst hc
        have e1 : Lib.trimPrefix (46 :: u ++ r) [46] = u ++ r := by simp [Lib.trimPrefix, Lib.hasPrefix, List.isPrefixOf]
        have e2 : Lib.trimPrefix (46 :: u) [46] = u := by simp [Lib.trimPrefix, Lib.hasPrefix, List.isPrefixOf]
        rw [e1, e2, ends_dig h]
      · have e1 : Lib.trimPrefix (a :: u ++ r) [46] = a :: u ++ r := by simp [Lib.trimPrefix, Lib.hasPrefix, List.isPrefixOf, Ne.symm hc]
        have e2 : Lib.trimPrefix (a :: u) [46] = a :: u := by simp [Lib.trimPrefix, Lib.hasPrefix, List.isPrefixOf, Ne.symm hc]
        rw [e1, e2, ends_dig h]
    rw [h1, h2]

theorem ends_numR (h0 : t ≠ []) : numR (t ++ r) = numR t := by
  have hg : (t ++ r).getD 0 0 = t.getD 0 0 := by
    cases t with
    | nil => exact absurd rfl h0
    | cons a t => rfl
  unfold numR
  rw [ends_dig h, hg, ends_numEnd h, drop_app _ _ _ (numEnd_le t), ends_word h]

theorem ends_signAt (h0 : t ≠ []) (m : Nat) (hm : 1 ≤ m) : signAt (t ++ r) m = signAt t m := by
  unfold signAt
  by_cases hl : m ≤ t.length
  · rw [take_app _ _ _ hl, decide_eq_true hl, decide_eq_true (by rw [List.length_append]; omega)]
  · rw [decide_eq_false hl, Bool.false_and]
    cases hr : r with
    | nil => rw [List.append_nil, decide_eq_false hl, Bool.false_and]
    | cons c r' =>
      by_cases hmem : (t ++ c :: r').take m ∈ sgwL
      · exfalso
        have hpos : 0 < t.length := List.length_pos_iff.2 h0
        have hi : ((t ++ c :: r').take m)[t.length]? = some c := by
          rw [List.getElem?_take, if_pos (by omega), List.getElem?_append_right (Nat.le_refl _)]
          simp
        have he := sg_inner _ hmem c (h.stop c r' hr) t.length hpos hi
        have hlen := congrArg List.length he
        rw [List.length_take] at hlen
        simp at hlen
        have h46 : c = 46 := by
          rw [he] at hi
          have : t.length = 1 := by
            have := (List.getElem?_eq_some_iff.1 hi).1
            simp at this
            omega
          rw [this] at hi
          simpa using hi.symm
        have ht1 : t.length = 1 := by
          have := (List.getElem?_eq_some_iff.1 (he ▸ hi)).1
          simp at this
          omega
        subst h46
        have htt : t = [46] := by
          match t, ht1 with
          | [a], _ =>
            have h2 : ((a :: 46 :: r').take m)[0]? = some 46 := by
              have : ([a] ++ 46 :: r').take m = [46, 46] := he
              rw [List.singleton_append] at this
              rw [this]; rfl
            rw [List.getElem?_take, if_pos (by omega)] at h2
            simp at h2
            rw [h2]
        exact (h.dot r' hr).1 htt
      · rw [decide_eq_false hmem, Bool.and_false]

theorem ends_signR (h0 : t ≠ []) : signR (t ++ r) = signR t := by
  unfold signR signLen
  rw [ends_signAt h h0 4 (by omega), ends_signAt h h0 3 (by omega), ends_signAt h h0 2 (by omega), ends_signAt h h0 1 (by omega)]

theorem ends_allRs (h0 : t ≠ []) : allRs (t ++ r) = allRs t := by
  unfold allRs
  rw [ends_qual h h0, ends_wordR h, ends_numR h h0, ends_signR h h0]
end
end Go.Proofs.YtokdoklkaojheaaDoor

namespace Go.Proofs.YtokdoklkaojheaaDoor
open Go.RowKit

def headL : List UInt8 := [40, 91, 35, 33, 46]

theorem head_let (c : UInt8) (h : c ∈ headL) : isLetB c = false ∧ isDigB c = false := by
  simp only [headL, List.mem_cons, List.not_mem_nil, or_false] at h
  rcases h with rfl | rfl | rfl | rfl | rfl <;> decide

theorem sg_heads : ∀ l ∈ sgwL, ∀ c ∈ headL, l.head? = some c → l = [c] ∨ (c = 33 ∧ l = [33, 61]) ∨ (c = 46 ∧ l = [46, 46]) := by decide +kernel
theorem sg_ones : ∀ c ∈ headL, [c] ∈ sgwL := by decide +kernel

theorem wlen_head (c : UInt8) (r : List UInt8) (h : isLetB c = false) : wlen (c :: r) = 0 := by
  unfold wlen
  rw [tw_cons, h]
  rfl

/-- a sign that stands before anything -/
theorem head_allRs (c : UInt8) (r : List UInt8) (hc : c ∈ headL) (h33 : c = 33 → ∀ r', r ≠ 61 :: r') (h46 : c = 46 → ∀ r', r ≠ 46 :: r') : allRs (c :: r) = allRs [c] := by
  obtain ⟨hl, hd⟩ := head_let c hc
  have hq : ∀ u, qualR (c :: u) = (0, 0, 0) := by
    intro u
    have : qualIn (c :: u) (wlen (c :: u)) = false := by rw [wlen_head c u hl]; simp [qualIn]
    unfold qualR
    rw [if_pos this]
  have hw : ∀ u, wordR (c :: u) = wordR [c] := by
    intro u
    unfold wordR
    rw [wlen_head c u hl, wlen_head c [] hl]
    rfl
  have hn : ∀ u, numR (c :: u) = (0, 0, 0) := by
    intro u
    have : tw isDigB (c :: u) = 0 := by rw [tw_cons, hd]; rfl
    unfold numR
    rw [if_pos this]
  have hs : ∀ m, 2 ≤ m → signAt (c :: r) m = false := by
    intro m hm
    unfold signAt
    by_cases hle : m ≤ (c :: r).length
    · by_cases hmem : (c :: r).take m ∈ sgwL
      · exfalso
        obtain ⟨m', rfl⟩ : ∃ m', m = m' + 2 := ⟨m - 2, by omega⟩
        rw [List.take_succ_cons] at hmem
        have := sg_heads _ hmem c hc rfl
        have hr : r ≠ [] := by rintro rfl; simp at hle
        obtain ⟨d, r', rfl⟩ := List.exists_cons_of_ne_nil hr
        rw [List.take_succ_cons] at this
        rcases this with e | ⟨rfl, e⟩ | ⟨rfl, e⟩
        · simp at e
        · injection e with _ e; injection e with e _
          exact h33 rfl r' (by rw [e])
        · injection e with _ e; injection e with e _
          exact h46 rfl r' (by rw [e])
      · rw [decide_eq_false hmem, Bool.and_false]
    · rw [decide_eq_false hle, Bool.false_and]
  have hs1 : ∀ m, 2 ≤ m → signAt [c] m = false := by
    intro m hm
    unfold signAt
    rw [decide_eq_false (by simp; omega), Bool.false_and]
  have hone : ∀ u, signAt (c :: u) 1 = true := by
    intro u
    unfold signAt
    rw [decide_eq_true (by simp), List.take_succ_cons, List.take_zero, decide_eq_true (sg_ones c hc)]
    rfl
  have hsg : signR (c :: r) = signR [c] := by
    unfold signR signLen
    rw [hs 4 (by omega), hs 3 (by omega), hs 2 (by omega), hone r, hs1 4 (by omega), hs1 3 (by omega), hs1 2 (by omega), hone []]
  unfold allRs
  rw [hq, hw, hn, hq, hn, hsg]

/-! where a token begins -/
/-- nothing is skipped here -/
def quietAt (l : List UInt8) : Prop := tw isSpB l = 0 ∧ Lib.hasPrefix l [47, 47] = false ∧ Lib.hasPrefix l [47, 42] = false

theorem skip_here (l : List UInt8) (at_ k : Nat) (hk : tw isSpB (l.drop at_) = k) (h1 : Lib.hasPrefix (l.drop (at_ + k)) [47, 47] = false) (h2 : Lib.hasPrefix (l.drop (at_ + k)) [47, 42] = false) : skipL l at_ = (at_ + k, 0) := by
  unfold skipL
  rw [skipF]
  unfold skipAt
  rw [hk, h1, h2]
  rfl

theorem quiet_of_skip (l : List UInt8) (h : skipL l 0 = (0, 0)) : quietAt l := by
  unfold skipL at h
  rw [skipF] at h
  have hle : skipAt l 0 ≤ l.length := skipAt_le l 0 (Nat.zero_le _)
  have hd : ∀ x : List UInt8, x.length = 2 → x.all notNlB = true → Lib.hasPrefix (l.drop (skipAt l 0)) x = true → 2 ≤ tw notNlB (l.drop (skipAt l 0)) := by
    intro x hx ha hp
    have := tw_pos notNlB _ x hp ha
    omega
  have htl : ∀ at_, at_ ≤ l.length → at_ + tw notNlB (l.drop at_) ≤ l.length := by
    intro at_ ha
    have := tw_le notNlB (l.drop at_)
    rw [List.length_drop] at this
    omega
  split at h
  · rename_i hp
    have h2 := hd [47, 47] rfl (by decide) hp
    have := skipF_le l l.length (skipAt l 0 + tw notNlB (l.drop (skipAt l 0))) (htl _ hle)
    rw [h] at this
    simp at this
    omega
  · rename_i hp
    split at h
    · rename_i hp2
      split at h
      · simp at h
      · rename_i hi
        exfalso
        have hr := Lib.index_room (l.drop (skipAt l 0 + 2)) [42, 47] (by omega)
        rw [List.length_drop] at hr
        simp at hr
        have := skipF_le l l.length (skipAt l 0 + ((Lib.index (l.drop (skipAt l 0 + 2)) [42, 47]).toNat + 4)) (by omega)
        rw [h] at this
        simp at this
    · rename_i hp2
      have h0 : skipAt l 0 = 0 := by simpa using h
      rw [h0] at hp hp2
      unfold skipAt at h0
      simp only [List.drop_zero, Nat.zero_add] at h0 hp hp2
      exact ⟨h0, by simpa using hp, by simpa using hp2⟩
end Go.Proofs.YtokdoklkaojheaaDoor

namespace Go.Proofs.YtokdoklkaojheaaDoor
open Go.RowKit

/-! a token that reads alone -/
theorem reads_facts (x : Tk) (h : readsB x = true) :
    x.text.data.toList ≠ [] ∧ quietAt x.text.data.toList ∧ ∃ K : Nat, readL (allRs x.text.data.toList) = (K, x.text.size, 0) ∧ (K : Int) = x.kind := by
  have hpos := reads_pos x h
  have hne : x.text.data.toList ≠ [] := by
    intro e
    have h2 : x.text.data.toList.length = 0 := by rw [e]; rfl
    rw [Array.length_toList] at h2
    have h3 : x.text.data.size = x.text.size := rfl
    omega
  refine ⟨hne, ?_⟩
  obtain ⟨⟨p, e0⟩, hp⟩ : ∃ pe, skipL x.text.data.toList 0 = pe := ⟨_, rfl⟩
  have ht : toks x.text = toksF x.text (x.text.size + 1) 0 := rfl
  rw [toksF_succ x.text x.text.size 0 p e0 hp] at ht
  have hsk := skipL_le x.text 0 (Nat.zero_le _)
  rw [hp] at hsk
  unfold readsB at h
  split at h
  · cases h
  · rename_i hn
    have hall : ∀ y ∈ toks x.text, isTok x y = true := fun y hy => by
      have := List.find?_eq_none.1 hn y hy
      simpa [notTok] using this
    by_cases he : e0 = 0
    · subst he
      rw [if_pos rfl] at ht
      by_cases hps : p = x.text.size
      · rw [if_pos hps] at ht
        rw [ht] at h; simp at h
      · rw [if_neg hps] at ht
        obtain ⟨f0, f1, f2, f3⟩ := (isTok_iff x _).1 (hall _ (by rw [ht]; exact List.mem_cons_self ..))
        simp only at f0 f1 f2 f3
        subst f3
        have hrd := readAt_le x.text 0 (Nat.zero_le _)
        have hsz := extract_size x.text 0 (readAt x.text 0).2.1 hrd
        rw [f2] at hsz
        have hra : readAt x.text 0 = readL (allRs x.text.data.toList) := by unfold readAt; rw [List.drop_zero]
        rw [hra] at f0 f1 hsz
        refine ⟨quiet_of_skip _ hp, (readL (allRs x.text.data.toList)).1, ?_, f1⟩
        exact Prod.ext rfl (Prod.ext hsz.symm f0)
    · rw [if_neg he] at ht
      have := (isTok_iff x _).1 (hall _ (by rw [ht]; exact List.mem_cons_self ..))
      exact absurd this.1 he

/-! the joined text, from a token on -/
def restF (xs : List Tk) : Nat → Nat → List UInt8
  | _, 0 => []
  | k, m + 1 => sepK xs k ++ txtK xs k ++ restF xs (k + 1) m
theorem joinK_add (xs : List Tk) : ∀ m k, joinK xs (k + m) = joinK xs k ++ restF xs k m
  | 0, k => by simp [restF]
  | m + 1, k => by
    rw [show k + (m + 1) = (k + 1) + m by omega, joinK_add xs m (k + 1), joinK, restF]
    simp [List.append_assoc]
end Go.Proofs.YtokdoklkaojheaaDoor

namespace Go.Proofs.YtokdoklkaojheaaDoor
open Go.RowKit

/-- before r it reads as alone -/
def Next (t r : List UInt8) : Prop := allRs (t ++ r) = allRs t ∧ quietAt (t ++ r)

theorem pre_app (t r : List UInt8) (x y : UInt8) (h0 : t ≠ []) (h : Lib.hasPrefix t [x, y] = false) (hr : (∀ c r', r = c :: r' → c ≠ y) ∨ ∃ c, t = [c] ∧ c ≠ x) : Lib.hasPrefix (t ++ r) [x, y] = false := by
  match t, h0 with
  | [a], _ =>
    cases r with
    | nil => exact h
    | cons c r' =>
      rcases hr with hr | ⟨c', e, hc⟩
      · have := hr c r' rfl
        simp [Lib.hasPrefix, List.isPrefixOf, Ne.symm this]
      · injection e with e _
        subst e
        simp [Lib.hasPrefix, List.isPrefixOf, Ne.symm hc]
  | a :: b :: u, _ =>
    simpa [Lib.hasPrefix, List.isPrefixOf] using h

theorem stop_not (c : UInt8) (h : c ∈ stopL) : c ≠ 47 ∧ c ≠ 42 := by
  constructor
  · rintro rfl; exact absurd h (by decide)
  · rintro rfl; exact absurd h (by decide)
theorem head_not (c : UInt8) (h : c ∈ headL) : c ≠ 47 := by
  rintro rfl; exact absurd h (by decide)

theorem quiet_app (t r : List UInt8) (h0 : t ≠ []) (h : quietAt t) (hr : (∀ c r', r = c :: r' → c ∈ stopL) ∨ ∃ c, t = [c] ∧ c ∈ headL) : quietAt (t ++ r) := by
  obtain ⟨h1, h2, h3⟩ := h
  refine ⟨?_, ?_, ?_⟩
  · obtain ⟨a, u, rfl⟩ := List.exists_cons_of_ne_nil h0
    rw [List.cons_append, tw_cons]
    rw [tw_cons] at h1
    split
    · rename_i hc
      rw [if_pos hc] at h1
      omega
    · rfl
  · exact pre_app t r 47 47 h0 h2 (hr.imp (fun h c r' e => (stop_not c (h c r' e)).1) (fun ⟨c, e, hc⟩ => ⟨c, e, head_not c hc⟩))
  · exact pre_app t r 47 42 h0 h3 (hr.imp (fun h c r' e => (stop_not c (h c r' e)).2) (fun ⟨c, e, hc⟩ => ⟨c, e, head_not c hc⟩))

theorem next_ends {t r : List UInt8} (h : Ends t r) (h0 : t ≠ []) (hq : quietAt t) : Next t r :=
  ⟨ends_allRs h h0, quiet_app t r h0 hq (.inl h.stop)⟩
theorem next_head (c : UInt8) (r : List UInt8) (hc : c ∈ headL) (h33 : c = 33 → ∀ r', r ≠ 61 :: r') (h46 : c = 46 → ∀ r', r ≠ 46 :: r') (hq : quietAt [c]) : Next [c] r :=
  ⟨head_allRs c r hc h33 h46, quiet_app [c] r (by simp) hq (.inr ⟨c, rfl, hc⟩)⟩

/-! what the first byte says of the kind -/
theorem readL_skip (r : Nat × Nat × Int) (rs : List (Nat × Nat × Int)) (h1 : r.2.1 = 0) (h2 : r.2.2 = 0) : readL (r :: rs) = readL rs := by
  rw [readL, if_neg (by omega)]
theorem readL_take (r : Nat × Nat × Int) (rs : List (Nat × Nat × Int)) (h : r.2.2 ≠ 0 ∨ 0 < r.2.1) : readL (r :: rs) = r := by
  rw [readL, if_pos h]

theorem no_letter (c : UInt8) (u : List UInt8) (h : isLetB c = false) : readL (allRs (c :: u)) = readL [numR (c :: u), signR (c :: u)] := by
  have hw : wlen (c :: u) = 0 := wlen_head c u h
  have hq : qualR (c :: u) = (0, 0, 0) := by
    have : qualIn (c :: u) (wlen (c :: u)) = false := by rw [hw]; simp [qualIn]
    unfold qualR
    rw [if_pos this]
  unfold allRs
  rw [hq, readL_skip _ _ rfl rfl, readL_skip]
  · unfold wordR
    rw [hw, if_neg (by omega)]
    split <;> rfl
  · unfold wordR
    rw [hw, if_neg (by omega)]
    split <;> rfl

theorem dig_let (c : UInt8) (h : isDigB c = true) : isLetB c = false := by
  have : ∀ n : Fin 256, isDigZ (n.1 : Int) = true → isLetZ (n.1 : Int) = false := by decide +kernel
  exact this ⟨c.toNat, c.toNat_lt⟩ h

theorem first_dig (z : List UInt8) (K n : Nat) (h : readL (allRs z) = (K, n, 0)) (hd : tw isDigB z ≠ 0) : K = 2 ∨ K = 3 := by
  cases z with
  | nil => exact absurd rfl hd
  | cons c u =>
    have hc : isDigB c = true := by
      cases hc : isDigB c with
      | true => rfl
      | false => rw [tw_cons, hc] at hd; exact absurd rfl hd
    rw [no_letter c u (dig_let c hc)] at h
    have hn : (numR (c :: u)).2.2 ≠ 0 ∨ 0 < (numR (c :: u)).2.1 := by
      unfold numR
      rw [if_neg hd]
      split
      · exact .inl (by decide)
      · refine .inr ?_
        show 0 < (numEnd (c :: u)).2
        unfold numEnd
        split
        · show 0 < _ + 1 + _; omega
        · show 0 < _; omega
    rw [readL_take _ _ hn] at h
    unfold numR at h
    rw [if_neg hd] at h
    split at h
    · injection h with _ h; injection h with _ h; cases h
    · injection h with h _
      unfold numEnd at h
      split at h
      · exact .inr h.symm
      · exact .inl h.symm

theorem two_sign (c d : UInt8) (u : List UInt8) (hc : c ∈ headL) (hm : [c, d] ∈ sgwL) : 2 ≤ (readL (allRs (c :: d :: u))).2.1 := by
  obtain ⟨hl, hd⟩ := head_let c hc
  rw [no_letter c _ hl]
  have hn : numR (c :: d :: u) = (0, 0, 0) := by
    have : tw isDigB (c :: d :: u) = 0 := by rw [tw_cons, hd]; rfl
    unfold numR
    rw [if_pos this]
  rw [hn, readL_skip _ _ rfl rfl]
  have h2 : signAt (c :: d :: u) 2 = true := by
    unfold signAt
    rw [decide_eq_true (by simp), List.take_succ_cons, List.take_succ_cons, List.take_zero, decide_eq_true hm]
    rfl
  have hs : 2 ≤ signLen (c :: d :: u) := by
    unfold signLen
    rw [h2]
    split
    · omega
    · split
      · omega
      · simp
  have he : signR (c :: d :: u) = (4, signLen (c :: d :: u), 0) := by
    unfold signR
    rw [if_neg (by omega)]
  rw [he, readL_take _ _ (.inr (by show 0 < signLen _; omega))]
  exact hs
end Go.Proofs.YtokdoklkaojheaaDoor

namespace Go.Proofs.YtokdoklkaojheaaDoor
open Go.RowKit

theorem after_head : ∀ l ∈ afterL, ∃ c ∈ headL, l = [c] := by decide
theorem before_stop : ∀ l ∈ beforeL, ∃ c ∈ stopL, l = [c] := by decide

theorem app_list (a b : ByteArray) : (a ++ b).data.toList = a.data.toList ++ b.data.toList := by simp

/-- two tokens that read as two: the first is the whole of the first text -/
theorem pair_first (a b : Tk) (hp : pairB a b = true) (hq : quietAt (a.text.data.toList ++ b.text.data.toList)) (ha : 0 < a.text.size) :
    (readL (allRs (a.text.data.toList ++ b.text.data.toList))).2.1 = a.text.size := by
  have hd := app_list a.text b.text
  have hsk : skipL (a.text ++ b.text).data.toList 0 = (0, 0) := by
    rw [hd]
    exact skip_here _ 0 0 hq.1 hq.2.1 hq.2.2
  have hz : (a.text ++ b.text).size = a.text.size + b.text.size := ByteArray.size_append
  have ht : toks (a.text ++ b.text) = toksF (a.text ++ b.text) ((a.text ++ b.text).size + 1) 0 := rfl
  rw [toksF_succ _ _ 0 0 0 hsk, if_pos rfl, if_neg (by omega)] at ht
  unfold pairB at hp
  split at hp
  · cases hp
  · rw [ht] at hp
    have hrd := readAt_le (a.text ++ b.text) 0 (Nat.zero_le _)
    have hsz := extract_size (a.text ++ b.text) 0 (readAt (a.text ++ b.text) 0).2.1 hrd
    have he : ((a.text ++ b.text).extract 0 (a.text ++ b.text).size).extract 0 (readAt (a.text ++ b.text) 0).2.1 = a.text := by
      revert hp
      generalize (if (readAt (a.text ++ b.text) 0).2.2 = 0 then toksF (a.text ++ b.text) (a.text ++ b.text).size (0 + (readAt (a.text ++ b.text) 0).2.1) else []) = rest
      intro hp
      match rest, hp with
      | [y], hp =>
        simp only [twoTok, Bool.and_eq_true, decide_eq_true_eq] at hp
        exact hp.1.2
    rw [he] at hsz
    have hra : readAt (a.text ++ b.text) 0 = readL (allRs (a.text.data.toList ++ b.text.data.toList)) := by unfold readAt; rw [hd]; rfl
    rw [← hra]
    exact hsz.symm

theorem size_list (b : ByteArray) : b.size = b.data.toList.length := by rw [Array.length_toList]; rfl

theorem next_pair (a b : Tk) (rest : List UInt8) (ha : readsB a = true) (hb : readsB b = true) (hs : spcB a b = false) (hdot : b.text.data.toList = [46] → tw isDigB rest = 0) :
    Next a.text.data.toList (b.text.data.toList ++ rest) := by
  obtain ⟨a0, aq, _⟩ := reads_facts a ha
  obtain ⟨b0, _, _⟩ := reads_facts b hb
  have hpos := reads_pos a ha
  unfold spcB at hs
  rw [Bool.or_eq_false_iff, Bool.or_eq_false_iff] at hs
  obtain ⟨_, hfr, hpr⟩ := hs
  have hp : pairB a b = true := by simpa using hpr
  have hfree : a.text.data.toList ∈ afterL ∨ b.text.data.toList ∈ beforeL := by
    unfold freeAB at hfr
    by_cases h1 : a.text.data.toList ∈ afterL
    · exact .inl h1
    · by_cases h2 : b.text.data.toList ∈ beforeL
      · exact .inr h2
      · rw [decide_eq_false h1, decide_eq_false h2] at hfr; cases hfr
  have hbs : b.text.data.toList ∈ beforeL → ∀ c r', b.text.data.toList = c :: r' → c ∈ stopL := by
    intro h c r' e
    obtain ⟨c', hc', e'⟩ := before_stop _ h
    rw [e'] at e
    injection e with e _
    exact e ▸ hc'
  have hq : quietAt (a.text.data.toList ++ b.text.data.toList) := by
    refine quiet_app _ _ a0 aq ?_
    rcases hfree with h | h
    · obtain ⟨c, hc, e⟩ := after_head _ h
      exact .inr ⟨c, e, hc⟩
    · exact .inl (hbs h)
  have hf := pair_first a b hp hq hpos
  have two : ∀ c d u, a.text.data.toList = [c] → b.text.data.toList = d :: u → c ∈ headL → [c, d] ∈ sgwL → False := by
    intro c d u ea eb hc hm
    have h2 := two_sign c d u hc hm
    rw [size_list, ea, eb, List.singleton_append, List.length_singleton] at hf
    omega
  obtain ⟨d, u, eb⟩ := List.exists_cons_of_ne_nil b0
  rcases hfree with h | h
  · obtain ⟨c, hc, e⟩ := after_head _ h
    rw [e] at aq
    rw [e]
    refine next_head c _ hc ?_ ?_ aq
    · intro h33 r' e2
      rw [eb, List.cons_append] at e2
      injection e2 with e2 _
      exact two c d u e eb hc (by rw [h33, e2]; decide +kernel)
    · intro h46 r' e2
      rw [eb, List.cons_append] at e2
      injection e2 with e2 _
      exact two c d u e eb hc (by rw [h46, e2]; decide +kernel)
  · obtain ⟨c, hc, e⟩ := before_stop _ h
    refine next_ends ⟨?_, ?_⟩ a0 aq
    · intro c' r' e2
      rw [e, List.singleton_append] at e2
      injection e2 with e2 _
      exact e2 ▸ hc
    · intro r' e2
      rw [e, List.singleton_append] at e2
      injection e2 with e2 e3
      subst e2
      subst e3
      exact ⟨fun h1 => two 46 46 [] h1 e (by decide) (by decide +kernel), hdot e⟩

theorem next_blank (a : Tk) (rest : List UInt8) (ha : readsB a = true) : Next a.text.data.toList (32 :: rest) := by
  obtain ⟨a0, aq, _⟩ := reads_facts a ha
  refine next_ends ⟨?_, ?_⟩ a0 aq
  · intro c r' e
    injection e with e _
    rw [← e]; decide
  · intro r' e
    injection e with e _
    exact absurd e (by decide)
theorem next_last (a : Tk) (ha : readsB a = true) : Next a.text.data.toList [] := by
  obtain ⟨a0, aq, _⟩ := reads_facts a ha
  exact next_ends ⟨(fun _ _ e => by cases e), (fun _ e => by cases e)⟩ a0 aq

theorem sepK_at (xs : List Tk) (k : Nat) (a b : Tk) (ha : xs[k]? = some a) (hb : xs[k + 1]? = some b) : sepK xs (k + 1) = if spcB a b = true then [32] else [] := by
  rw [sepK, ha, hb]
theorem txtK_at (xs : List Tk) (k : Nat) (a : Tk) (ha : xs[k]? = some a) : txtK xs k = a.text.data.toList := by
  unfold txtK; rw [ha]

theorem rest_dig (xs : List Tk) (hr : ∀ x ∈ xs, readsB x = true) (k m : Nat) (hk : k + 1 + m = xs.length) (b : Tk) (hb : xs[k]? = some b) (h46 : b.text.data.toList = [46]) : tw isDigB (restF xs (k + 1) m) = 0 := by
  cases m with
  | zero => rfl
  | succ m =>
    have hz : xs[k + 1]? = some (xs[k + 1]'(by omega)) := List.getElem?_eq_getElem (by omega)
    generalize xs[k + 1]'(by omega) = z at hz
    have hzr := hr z (List.mem_of_getElem? hz)
    rw [restF, sepK_at xs k b z hb hz, txtK_at xs (k + 1) z hz]
    cases hs : spcB b z with
    | true => rw [if_pos rfl, List.append_assoc, List.singleton_append, tw_cons]; rfl
    | false =>
      rw [if_neg (by decide), List.nil_append]
      obtain ⟨z0, _, K, hK, hk⟩ := reads_facts z hzr
      unfold spcB at hs
      rw [Bool.or_eq_false_iff] at hs
      have hd := hs.1
      unfold dotNum at hd
      rw [Lib.toList_data, h46] at hd
      have h0 : tw isDigB z.text.data.toList = 0 := by
        by_cases h : tw isDigB z.text.data.toList = 0
        · exact h
        · exfalso
          rcases first_dig _ K _ hK h with rfl | rfl
          · rw [← hk] at hd; simp at hd
          · rw [← hk] at hd; simp at hd
      obtain ⟨e, u, ez⟩ := List.exists_cons_of_ne_nil z0
      rw [ez, tw_cons] at h0
      rw [ez, List.cons_append, tw_cons]
      cases he : isDigB e with
      | true => rw [he, if_pos rfl] at h0; omega
      | false => rfl

theorem next_rest (xs : List Tk) (hr : ∀ x ∈ xs, readsB x = true) (k m : Nat) (a : Tk) (ha : xs[k]? = some a) (hk : k + 1 + m = xs.length) : Next a.text.data.toList (restF xs (k + 1) m) := by
  have har := hr a (List.mem_of_getElem? ha)
  cases m with
  | zero => exact next_last a har
  | succ m =>
    have hb : xs[k + 1]? = some (xs[k + 1]'(by omega)) := List.getElem?_eq_getElem (by omega)
    generalize xs[k + 1]'(by omega) = b at hb
    have hbr := hr b (List.mem_of_getElem? hb)
    rw [restF, sepK_at xs k a b ha hb, txtK_at xs (k + 1) b hb]
    cases hs : spcB a b with
    | true => rw [if_pos rfl, List.append_assoc, List.singleton_append]; exact next_blank a _ har
    | false =>
      rw [if_neg (by decide), List.nil_append]
      exact next_pair a b _ har hbr hs (fun h => rest_dig xs hr (k + 1) m (by omega) b hb h)
end Go.Proofs.YtokdoklkaojheaaDoor

namespace Go.Proofs.YtokdoklkaojheaaDoor
open Go.RowKit

/-- what is read, without its place -/
def tk0 (y : Item) : Tk := ⟨y.kind, y.text, 0⟩

theorem item_here (s : ByteArray) (g p : Nat) (sep t rest : List UInt8) (K : Nat) (hl : s.data.toList.drop p = sep ++ (t ++ rest)) (hsep : sep.all isSpB = true) (t0 : t ≠ []) (hn : Next t rest) (hr : readL (allRs t) = (K, t.length, 0)) :
    toksF s (g + 1) p = ⟨K, ⟨t.toArray⟩, p + sep.length, p + sep.length + t.length, 0⟩ :: toksF s g (p + sep.length + t.length) := by
  have hdr : s.data.toList.drop (p + sep.length) = t ++ rest := by
    rw [← List.drop_drop, hl, List.drop_left]
  have hk : tw isSpB (s.data.toList.drop p) = sep.length := by
    rw [hl, tw_append _ _ _ hsep, hn.2.1]; rfl
  have hsk := skip_here s.data.toList p sep.length hk (by rw [hdr]; exact hn.2.2.1) (by rw [hdr]; exact hn.2.2.2)
  have hra : readAt s (p + sep.length) = (K, t.length, 0) := by unfold readAt; rw [hdr, hn.1, hr]
  have hpos : 0 < t.length := List.length_pos_iff.2 t0
  have hne : ¬ p + sep.length = s.size := by
    intro e
    have h := congrArg List.length hdr
    rw [List.length_drop, e, ← size_list, List.length_append] at h
    omega
  have htx : (s.extract (p + sep.length) s.size).extract 0 t.length = ⟨t.toArray⟩ := by
    rw [Lib.extract_eq, Lib.extract_to_end, hdr, List.drop_zero, Nat.sub_zero, List.take_left]
  rw [toksF_succ s g p _ 0 hsk, if_pos rfl, if_neg hne, hra, if_pos rfl]
  simp only
  rw [htx]

theorem sepK_sp (xs : List Tk) (k : Nat) : (sepK xs k).all isSpB = true := by
  cases k with
  | zero => rfl
  | succ k =>
    rw [sepK]
    split
    · split <;> rfl
    · rfl

theorem joinK_len (xs : List Tk) (hr : ∀ x ∈ xs, readsB x = true) : ∀ k, k ≤ xs.length → k ≤ (joinK xs k).length
  | 0, _ => Nat.zero_le _
  | k + 1, h => by
    have ha : xs[k]? = some (xs[k]'(by omega)) := List.getElem?_eq_getElem (by omega)
    generalize xs[k]'(by omega) = a at ha
    have h1 := reads_pos a (hr a (List.mem_of_getElem? ha))
    have ih := joinK_len xs hr k (by omega)
    rw [size_list] at h1
    rw [joinK, txtK_at xs k a ha, List.length_append, List.length_append]
    omega

theorem toks_rest (xs : List Tk) (hr : ∀ x ∈ xs, readsB x = true) (s : ByteArray) (hs : s.data.toList = joinK xs xs.length) : ∀ m k g, k + m = xs.length → m ≤ g →
    (toksF s (g + 1) (joinK xs k).length).map tk0 = (xs.drop k).map zer ∧ (∀ y ∈ toksF s (g + 1) (joinK xs k).length, y.err = 0) ∧
      ∀ i y, (toksF s (g + 1) (joinK xs k).length)[i]? = some y → y.start = (joinK xs (k + i)).length + (sepK xs (k + i)).length
  | 0, k, g, hk, _ => by
    have e : k = xs.length := by omega
    subst e
    rw [← hs, ← size_list, toksF_end, List.drop_length]
    exact ⟨rfl, (fun y hy => absurd hy List.not_mem_nil), fun i y hy => by simp at hy⟩
  | m + 1, k, 0, _, hg => by omega
  | m + 1, k, g + 1, hk, hg => by
    have hlt : k < xs.length := by omega
    have ha : xs[k]? = some (xs[k]'hlt) := List.getElem?_eq_getElem hlt
    have hdx : xs.drop k = xs[k]'hlt :: xs.drop (k + 1) := List.drop_eq_getElem_cons hlt
    generalize xs[k]'hlt = a at ha hdx
    have har := hr a (List.mem_of_getElem? ha)
    obtain ⟨a0, _, K, hK, hkind⟩ := reads_facts a har
    have hn := next_rest xs hr k m a ha (by omega)
    have hall := joinK_add xs (m + 1) k
    rw [hk] at hall
    have hdrop : s.data.toList.drop (joinK xs k).length = sepK xs k ++ (a.text.data.toList ++ restF xs (k + 1) m) := by
      rw [hs, hall, List.drop_left, restF, txtK_at xs k a ha, List.append_assoc]
    rw [size_list] at hK
    have hlen : (joinK xs k).length + (sepK xs k).length + a.text.data.toList.length = (joinK xs (k + 1)).length := by
      rw [joinK, txtK_at xs k a ha, List.length_append, List.length_append]
    rw [item_here s (g + 1) _ _ _ _ K hdrop (sepK_sp xs k) a0 hn hK, hlen, hdx, List.map_cons, List.map_cons]
    have ih := toks_rest xs hr s hs m (k + 1) g (by omega) (by omega)
    refine ⟨?_, ?_, ?_⟩
    · rw [ih.1]
      refine congrArg (· :: _) ?_
      show (⟨(K : Int), ⟨a.text.data.toList.toArray⟩, 0⟩ : Tk) = ⟨a.kind, a.text, 0⟩
      rw [hkind, Array.toArray_toList]
    · intro y hy
      rcases List.mem_cons.1 hy with rfl | hy
      · rfl
      · exact ih.2.1 y hy
    · intro i y hy
      cases i with
      | zero =>
        rw [List.getElem?_cons_zero] at hy
        injection hy with hy
        rw [← hy]; rfl
      | succ i =>
        rw [List.getElem?_cons_succ] at hy
        rw [ih.2.2 i y hy, show k + 1 + i = k + (i + 1) by omega]

/-- the tokens of a joined text are the given ones -/
theorem toks_join (xs : List Tk) (hr : ∀ x ∈ xs, readsB x = true) (s : ByteArray) (hs : s.data.toList = joinK xs xs.length) :
    (toks s).map tk0 = xs.map zer ∧ (∀ y ∈ toks s, y.err = 0) ∧ ∀ i y, (toks s)[i]? = some y → y.start = (joinK xs i).length + (sepK xs i).length := by
  have h := joinK_len xs hr xs.length (Nat.le_refl _)
  rw [← hs, ← size_list] at h
  have h2 := toks_rest xs hr s hs xs.length 0 s.size (by omega) h
  have e : (joinK xs 0).length = 0 := rfl
  rw [e, List.drop_zero] at h2
  exact ⟨h2.1, h2.2.1, fun i y hy => by have := h2.2.2 i y hy; rwa [Nat.zero_add] at this⟩

theorem sepK_len (xs : List Tk) (k : Nat) : (sepK xs k).length ≤ 1 := by
  cases k with
  | zero => exact Nat.zero_le _
  | succ k =>
    rw [sepK]
    split
    · split
      · exact Nat.le_refl _
      · exact Nat.zero_le _
    · exact Nat.zero_le _

/-- the text of a token stands at its place -/
theorem join_text (xs : List Tk) (s : ByteArray) (hs : s.data.toList = joinK xs xs.length) (i : Nat) (a : Tk) (ha : xs[i]? = some a) :
    s.extract ((joinK xs i).length + (sepK xs i).length) ((joinK xs i).length + (sepK xs i).length + a.text.size) = a.text ∧
      (joinK xs i).length + (sepK xs i).length + a.text.size = (joinK xs (i + 1)).length ∧ (joinK xs (i + 1)).length ≤ s.size := by
  have hlt : i < xs.length := (List.getElem?_eq_some_iff.1 ha).1
  obtain ⟨m, hm⟩ : ∃ m, i + (m + 1) = xs.length := ⟨xs.length - i - 1, by omega⟩
  have hall := joinK_add xs (m + 1) i
  have hall2 := joinK_add xs m (i + 1)
  rw [hm] at hall
  rw [show i + 1 + m = xs.length by omega] at hall2
  have hdrop : s.data.toList.drop ((joinK xs i).length + (sepK xs i).length) = a.text.data.toList ++ restF xs (i + 1) m := by
    rw [← List.drop_drop, hs, hall, List.drop_left, restF, txtK_at xs i a ha, List.append_assoc, List.drop_left]
  refine ⟨?_, ?_, ?_⟩
  · rw [Lib.extract_eq, hdrop, Nat.add_sub_cancel_left, size_list, List.take_left, Array.toArray_toList]
  · rw [joinK, txtK_at xs i a ha, List.length_append, List.length_append, ← size_list]
  · rw [size_list, hs, hall2, List.length_append]; omega
end Go.Proofs.YtokdoklkaojheaaDoor

namespace Go.Proofs.YtokdoklkaojheaaDoor
open Go.RowKit

/-- the kinds and texts of a list of tokens in memory -/
def wordsAt (w : World) (b o n : Nat) (vs : Nat → Int × ByteArray) : Prop :=
  ∀ i, i < n → w.cell? ⟨b, o + i * 3, none⟩ = some (.int .i64 (vs i).1) ∧ w.cell? ⟨b, o + i * 3 + 1, none⟩ = some (.string (vs i).2)

set_option maxHeartbeats 4000000 in
set_option maxRecDepth 100000 in
/-- two lists of the same kinds and texts -/
theorem sameWords_eq (b1 o1 b2 o2 : Nat) (vs : Nat → Int × ByteArray) (n c1 c2 : Nat) (w : World) (hm : n ≤ 1000000) (h1 : wordsAt w b1 o1 n vs) (h2 : wordsAt w b2 o2 n vs) :
    Calls Tryd.prog 32 #[.slice (some ⟨b1, o1, none⟩) n c1, .slice (some ⟨b2, o2, none⟩) n c2] w fun r w' => r = .returned (.bool true) ∧ ∃ q, w' = w.drewN q := by
  have H1 := Lib.hid h1; have H2 := Lib.hid h2; clear h1 h2
  go_enter Tryd.func32, Tryd.ntmps32
  go_wp2
  go_loopw [5] (fun i wr => ∃ k q : Nat, k ≤ n ∧ i = .int .i64 k ∧ wr = w.drewN q) (fun i _ => n - (intOf i).toNat)
  case atStart => exact ⟨0, 0, Nat.zero_le _, rfl, rfl⟩
  case round =>
    obtain ⟨k, q, hk, rfl, rfl⟩ := hrel
    by_cases hlt : k < n
    · obtain ⟨a0, a1⟩ := H1.out k hlt
      obtain ⟨e0, e1⟩ := H2.out k hlt
      obtain ⟨⟨x, t⟩, hz⟩ : ∃ z, vs k = z := ⟨_, rfl⟩
      rw [hz] at a0 a1 e0 e1
      clear hz
      go_wp2
      go_quiet (fail)
      go_wp2
      go_roundw
      case rel => exact ⟨k + 1, _, by omega, by go_num, rfl⟩
      case measure => simp [intOf]; omega
    · go_wp2
      go_ret
      exact ⟨rfl, q, rfl⟩

set_option maxHeartbeats 4000000 in
set_option maxRecDepth 100000 in
theorem sameWords_zero (a1 a2 : Option Addr) (c1 c2 : Nat) (w : World) :
    Calls Tryd.prog 32 #[.slice a1 0 c1, .slice a2 0 c2] w fun r w' => r = .returned (.bool true) ∧ ∃ q, w' = w.drewN q := by
  go_enter Tryd.func32, Tryd.ntmps32
  go_wp2
  go_loopw [5] (fun i wr => i = .int .i64 0 ∧ ∃ q, wr = w.drewN q) (fun i _ => 0)
  case atStart => exact ⟨rfl, 0, rfl⟩
  case round =>
    obtain ⟨rfl, q, rfl⟩ := hrel
    go_wp2
    go_ret
    exact ⟨rfl, q, rfl⟩
end Go.Proofs.YtokdoklkaojheaaDoor

namespace Go.Proofs.YtokdoklkaojheaaDoor
open Go.RowKit

def tkS (y : Item) : Tk := ⟨y.kind, y.text, y.start⟩
theorem tkS_row (xs : List Item) : tkRow (xs.map tkS) = rowL xs := by
  unfold tkRow rowL
  rw [List.flatMap_map]
  rfl

theorem firstErr_all : ∀ zs : List Int, firstErr zs = 0 → ∀ z ∈ zs, z = 0
  | [], _, z, hz => absurd hz List.not_mem_nil
  | x :: zs, h, z, hz => by
    rw [firstErr] at h
    by_cases h0 : x = 0
    · rw [if_pos h0] at h
      rcases List.mem_cons.1 hz with rfl | hz
      · exact h0
      · exact firstErr_all zs h z hz
    · rw [if_neg h0] at h
      exact absurd h h0

theorem ck_zero (x : Tk) (h : ckTok x = 0) : readsB x = true := by
  unfold ckTok at h
  split at h
  · cases h
  · split at h
    · assumption
    · cases h

theorem zer_ck (xs : List Tk) : (xs.map zer).map ckTok = xs.map ckTok := by
  rw [List.map_map]; rfl
theorem joinOut_words {xs ys : List Tk} (h : ys.map zer = xs.map zer) : joinOut ys = joinOut xs := by
  have hl : ys.length = xs.length := by simpa using congrArg List.length h
  unfold joinOut
  rw [← zer_ck ys, ← zer_ck xs, h, hl]

theorem joinK_size (xs : List Tk) (hz : ∀ x ∈ xs, x.text.size ≤ 200) : ∀ k, (joinK xs k).length ≤ 201 * k
  | 0 => Nat.zero_le _
  | k + 1 => by
    have ih := joinK_size xs hz k
    have h1 := sepK_len xs k
    have h2 : (txtK xs k).length ≤ 200 := by
      cases ha : xs[k]? with
      | none => unfold txtK; rw [ha]; exact Nat.zero_le _
      | some a =>
        have := hz a (List.mem_of_getElem? ha)
        rw [txtK_at xs k a ha, ← size_list]
        exact this
    rw [joinK, List.length_append, List.length_append]
    omega

/-- where the loop over the tokens stands -/
structure Ends2 (s : ByteArray) (ends : Nat → Nat) (n : Nat) : Prop where
  zero : ends 0 = 0
  last : ends n = s.size
  step : ∀ (i : Nat) (y : Item), (toks s)[i]? = some y → ends i ≤ y.start ∧ y.start ≤ ends i + 1 ∧ y.start + y.text.size = ends (i + 1) ∧ ends (i + 1) ≤ s.size ∧ s.extract y.start (y.start + y.text.size) = y.text

theorem ret_facts (xs : List Tk) (s : ByteArray) (hj : joinOut xs = (s, 0)) (hz : ∀ x ∈ xs, x.text.size ≤ 200) :
    (toks s).length = xs.length ∧ (toks s).find? badTok = none ∧ s.size ≤ 201 * xs.length ∧ joinOut ((toks s).map tkS) = (s, 0) ∧
      (∀ (i : Nat) (x : Tk) (y : Item), xs[i]? = some x → (toks s)[i]? = some y → (y.kind : Int) = x.kind ∧ y.text = x.text) ∧ ∃ ends, Ends2 s ends xs.length := by
  have hj0 := hj
  have h0 : firstErr (xs.map ckTok) = 0 := by
    unfold joinOut at hj
    split at hj
    · rename_i h
      exact absurd (congrArg Prod.snd hj) h
    · rename_i h
      exact Decidable.not_not.1 h
  have hs : s.data.toList = joinK (xs.map zer) (xs.map zer).length := by
    unfold joinOut at hj
    rw [if_neg (by rw [h0]; exact fun h => h rfl)] at hj
    injection hj with h1 _
    rw [← h1, List.length_map]
  have hr : ∀ x ∈ xs.map zer, readsB x = true := by
    intro x hx
    obtain ⟨a, ha, rfl⟩ := List.mem_map.1 hx
    exact ck_zero a (firstErr_all _ h0 _ (List.mem_map_of_mem ha))
  have hz2 : ∀ x ∈ xs.map zer, x.text.size ≤ 200 := by
    intro x hx
    obtain ⟨a, ha, rfl⟩ := List.mem_map.1 hx
    exact hz a ha
  obtain ⟨t1, t2, t3⟩ := toks_join (xs.map zer) hr s hs
  have hzz : (xs.map zer).map zer = xs.map zer := by rw [List.map_map]; rfl
  rw [hzz] at t1
  have hlen : (toks s).length = xs.length := by simpa using congrArg List.length t1
  have hat : ∀ (i : Nat) (x : Tk) (y : Item), xs[i]? = some x → (toks s)[i]? = some y → (y.kind : Int) = x.kind ∧ y.text = x.text := by
    intro i x y hx hy
    have h := congrArg (fun l => l[i]?) t1
    simp only [List.getElem?_map, hx, hy, Option.map_some] at h
    injection h with h
    injection h with h1 h2 _
    exact ⟨h1, h2⟩
  refine ⟨hlen, ?_, ?_, ?_, hat, fun i => (joinK (xs.map zer) i).length, rfl, ?_, ?_⟩
  · refine List.find?_eq_none.2 fun y hy => ?_
    have := t2 y hy
    simp [badTok, this]
  · have := joinK_size (xs.map zer) hz2 (xs.map zer).length
    rw [← hs, ← size_list, List.length_map] at this
    exact this
  · rw [← hj0]
    refine joinOut_words ?_
    rw [List.map_map, ← t1]
    rfl
  · show (joinK (xs.map zer) xs.length).length = s.size
    rw [size_list, hs, List.length_map]
  · intro i y hy
    have hi : i < xs.length := by rw [← hlen]; exact (List.getElem?_eq_some_iff.1 hy).1
    have hx : xs[i]? = some (xs[i]'hi) := List.getElem?_eq_getElem hi
    generalize xs[i]'hi = x at hx
    have hx2 : (xs.map zer)[i]? = some (zer x) := by rw [List.getElem?_map, hx]; rfl
    obtain ⟨j1, j2, j3⟩ := join_text (xs.map zer) s hs i (zer x) hx2
    have h3 := t3 i y hy
    have h1 := sepK_len (xs.map zer) i
    have h4 : y.text = (zer x).text := (hat i x y hx hy).2
    rw [← h3, ← h4] at j1 j2
    exact ⟨by rw [h3]; omega, by rw [h3]; show _ ≤ (joinK (xs.map zer) i).length + 1; omega, j2, j3, j1⟩
end Go.Proofs.YtokdoklkaojheaaDoor

namespace Go.Proofs.YtokdoklkaojheaaDoor
open Go.RowKit Go.Shelf

theorem tksAt_below {A B : World} {b o : Nat} {xs : List Tk} (h : tksAt A b o xs) (hb : b < A.heap.size) (hw : Below A.heap.size A B) : tksAt B b o xs :=
  fun i x hi => ⟨(hw.cell (p := ⟨b, o + i * 3, none⟩) hb).trans (h i x hi).1, (hw.cell (p := ⟨b, o + i * 3 + 1, none⟩) hb).trans (h i x hi).2.1, (hw.cell (p := ⟨b, o + i * 3 + 2, none⟩) hb).trans (h i x hi).2.2⟩
theorem itemsAt_below {A B : World} {b : Nat} {xs : List Item} (h : itemsAt A b xs) (hb : b < A.heap.size) (hw : Below A.heap.size A B) : itemsAt B b xs :=
  fun i x hi => ⟨(hw.cell (p := ⟨b, i * 3, none⟩) hb).trans (h i x hi).1, (hw.cell (p := ⟨b, i * 3 + 1, none⟩) hb).trans (h i x hi).2.1, (hw.cell (p := ⟨b, i * 3 + 2, none⟩) hb).trans (h i x hi).2.2⟩

theorem words_items {w : World} {b : Nat} {ys : List Item} (h : itemsAt w b ys) : wordsAt w b 0 ys.length (fun i => match ys[i]? with | some y => ((y.kind : Int), y.text) | none => (0, ⟨#[]⟩)) := by
  intro i hi
  have hy : ys[i]? = some (ys[i]'hi) := List.getElem?_eq_getElem hi
  generalize ys[i]'hi = y at hy
  simp only [hy, Nat.zero_add]
  exact ⟨(h i y hy).1, (h i y hy).2.1⟩
theorem words_tks {w : World} {b o : Nat} {xs : List Tk} {ys : List Item} (h : tksAt w b o xs) (hl : ys.length = xs.length)
    (hxy : ∀ (i : Nat) (x : Tk) (y : Item), xs[i]? = some x → ys[i]? = some y → (y.kind : Int) = x.kind ∧ y.text = x.text) :
    wordsAt w b o ys.length (fun i => match ys[i]? with | some y => ((y.kind : Int), y.text) | none => (0, ⟨#[]⟩)) := by
  intro i hi
  have hy : ys[i]? = some (ys[i]'hi) := List.getElem?_eq_getElem hi
  generalize ys[i]'hi = y at hy
  have hx : xs[i]? = some (xs[i]'(by omega)) := List.getElem?_eq_getElem (by omega)
  generalize xs[i]'(by omega) = x at hx
  obtain ⟨e1, e2⟩ := hxy i x y hx hy
  simp only [hy, e1, e2]
  exact ⟨(h i x hx).1, (h i x hx).2.1⟩

theorem tks_items {w : World} {b : Nat} {ys : List Item} (h : itemsAt w b ys) : tksAt w b 0 (ys.map tkS) := by
  intro i x hi
  rw [List.getElem?_map] at hi
  cases hy : ys[i]? with
  | none => rw [hy] at hi; cases hi
  | some y =>
    rw [hy] at hi
    injection hi with hi
    subst hi
    simp only [Nat.zero_add]
    exact h i y hy

theorem tok_out {s : ByteArray} {base : Nat} {w' : World} {v : Value} {off err : Int} (h : TokOut s base w' v off err) (hs : s.size ≤ 65536) (hf : (toks s).find? badTok = none) (hl : (toks s).length ≤ 20000) :
    w'.ownsRow base 59 3 v (toks s).length (rowL (toks s)) ∧ (v = .slice none 0 0 ↔ toks s = []) ∧ off = 0 ∧ err = 0 := by
  unfold TokOut at h
  rw [if_neg (by omega), hf] at h
  simp only at h
  rw [if_neg (by omega)] at h
  exact h

set_option maxHeartbeats 8000000 in
set_option maxRecDepth 100000 in
theorem law_returns (b o n c : Nat) (xs : List Tk) (m : Int) (w : World) (hn : n = xs.length) (hn0 : 0 < n) (hm63 : n ≤ 9223372036854775807) (hb : b < w.heap.size) (hx : tksAt w b o xs) (ht : Tab w) (hm : w.cell? ⟨2, 0, none⟩ = some (.int .i64 m)) :
    Calls Tryd.prog 7 #[.slice (some ⟨b, o, none⟩) n c] w fun e w' => e = .returned (.bool true) ∧ Below w.heap.size w w' := by
  have C1 := Lib.hid (short_any b o n c xs w hn hm63 hb hx)
  have Ht := Lib.hid ht; have Hm := Lib.hid hm; have Hx := Lib.hid hx; have Hn := Lib.hid hn
  clear ht hm hx hn
  cases hs : shortB xs with
  | false =>
    rw [hs] at C1
    go_enter Tryd.func7, Tryd.ntmps7
    go_wp2_with fail
    refine C1.out.mono ?_; rintro e w1 ⟨rfl, hb1⟩
    have Hb1 := Lib.hid hb1; clear hb1
    go_wp2_with fail
    refine (awake_any m _ (Ht.out.below Hb1.out) (Max.below Hm.out Hb1.out)).mono ?_; rintro e w2 ⟨rfl, hb2⟩
    have Hb2 := Lib.hid (Hb1.out.trans (hb2.mono Hb1.out.size)); clear hb2
    go_wp2
    go_ret
    exact ⟨rfl, Hb2.out⟩
  | true =>
    rw [hs] at C1
    have h80 : n ≤ 80 := by
      unfold shortB at hs
      rw [Bool.and_eq_true, decide_eq_true_iff] at hs
      rw [Hn.out]; exact hs.2
    have hsz : ∀ x ∈ xs, x.text.size ≤ 200 := by
      intro x hxm
      unfold shortB at hs
      rw [Bool.and_eq_true] at hs
      have h1 : anyLong xs = false := by simpa using hs.1
      unfold anyLong at h1
      have := List.any_eq_false.1 h1 x hxm
      simp [longTk] at this
      exact this
    have Hsz := Lib.hid hsz
    clear hsz hs
    go_enter Tryd.func7, Tryd.ntmps7
    go_wp2_with fail
    refine C1.out.mono ?_; rintro e w1 ⟨rfl, hb1⟩
    have Hb1 := Lib.hid hb1; clear hb1
    have C3 := Lib.hid (theirs_any b o n c xs w1 Hn.out (by omega) (Nat.lt_of_lt_of_le hb Hb1.out.size) (tksAt_below Hx.out hb Hb1.out))
    go_wp2_with fail
    refine C3.out.mono ?_; rintro e w3 ⟨v3, rfl, hrow, hb3⟩
    have Hb3 := Lib.hid (Hb1.out.trans (hb3.mono Hb1.out.size)); clear hb3 C3
    obtain ⟨n1, rfl⟩ : ∃ n1, n = n1 + 1 := ⟨n - 1, by omega⟩
    obtain ⟨g, cap, rfl⟩ := ownsRow_succ hrow
    have hx3 : tksAt w3 g 0 xs := by
      intro i x hi
      obtain ⟨r0, r1, r2⟩ := tkRow_at xs i x hi
      simp only [Nat.zero_add]
      exact ⟨row_cell hrow _ _ r0, row_cell hrow _ _ r1, row_cell hrow _ _ r2⟩
    have hgl : g < w3.heap.size := (hrow.lt g rfl).2
    have C4 := Lib.hid (join_any g (n1 + 1) cap xs m w3 Hn.out (by omega) h80 Hsz.out hgl hx3 (Ht.out.below Hb3.out) (Max.below Hm.out Hb3.out))
    obtain ⟨⟨js, je⟩, hj⟩ : ∃ p, joinOut xs = p := ⟨_, rfl⟩
    rw [hj] at C4
    clear hx3 hrow hgl
    go_wp2_with fail
    refine C4.out.mono ?_; rintro e w4 ⟨rfl, hb4⟩
    have Hb4 := Lib.hid (Hb3.out.trans (hb4.mono Hb3.out.size)); clear hb4 C4
    by_cases h0 : je = 0
    · subst h0
      obtain ⟨f1, f2, f3, f4, f5, ends, f6⟩ := ret_facts xs js hj Hsz.out
      rw [← Hn.out] at f1 f3 f6
      have Hj := Lib.hid hj; clear hj
      have F2 := Lib.hid f2; have F3 := Lib.hid f3; have F4 := Lib.hid f4; have F5 := Lib.hid f5; have F6 := Lib.hid f6; have F1 := Lib.hid f1
      clear f1 f2 f3 f4 f5 f6
      go_wp2_with fail
      refine (tokens_any js m w4 (Ht.out.below Hb4.out) (Max.below Hm.out Hb4.out)).mono ?_; rintro e w5 ⟨v, off, err, rfl, htok, hb5⟩
      obtain ⟨hr5, _, rfl, rfl⟩ := tok_out htok (by have := F3.out; omega) F2.out (by have := F1.out; omega)
      have Hb5 := Lib.hid (Hb4.out.trans (hb5.mono Hb4.out.size)); clear hb5 htok
      rw [F1.out] at hr5
      obtain ⟨g5, cap5, rfl⟩ := ownsRow_succ hr5
      have hi5 : itemsAt w5 g5 (toks js) := by
        intro i x hi
        obtain ⟨r0, r1, r2⟩ := rowL_at (toks js) i x hi
        exact ⟨row_cell hr5 _ _ r0, row_cell hr5 _ _ r1, row_cell hr5 _ _ r2⟩
      have hg5 : g5 < w5.heap.size := (hr5.lt g5 rfl).2
      have Hi5 := Lib.hid hi5; have Hg5 := Lib.hid hg5; clear hi5 hg5 hr5
      go_wp2_with fail
      refine (ours_any g5 (n1 + 1) cap5 (toks js) w5 F1.out.symm (by omega) Hg5.out Hi5.out).mono ?_; rintro e w6 ⟨v6, rfl, hr6, hb6⟩
      have Hb56 := Lib.hid hb6
      have Hb6 := Lib.hid (Hb5.out.trans (hb6.mono Hb5.out.size)); clear hb6
      obtain ⟨g6, cap6, rfl⟩ := ownsRow_succ hr6
      have hi6 : itemsAt w6 g6 (toks js) := by
        intro i x hi
        obtain ⟨r0, r1, r2⟩ := rowL_at (toks js) i x hi
        exact ⟨row_cell hr6 _ _ r0, row_cell hr6 _ _ r1, row_cell hr6 _ _ r2⟩
      have hw1 := words_items hi6
      have hw2 := words_tks (ys := toks js) (tksAt_below Hx.out hb Hb6.out) (by rw [F1.out]; exact Hn.out) F5.out
      rw [F1.out] at hw1 hw2
      have C6 := Lib.hid (sameWords_eq g6 0 b o _ (n1 + 1) cap6 c w6 (by omega) hw1 hw2)
      have hb57 : itemsAt w6 g5 (toks js) := itemsAt_below Hi5.out Hg5.out Hb56.out
      have Hi6 := Lib.hid hb57; have Hg6 := Lib.hid (Nat.lt_of_lt_of_le Hg5.out Hb56.out.size); clear hb57 hw1 hw2 hi6 hr6
      go_wp2_with fail
      refine C6.out.mono ?_; rintro e w7 ⟨rfl, q7, rfl⟩
      clear C6
      go_wp2_with fail
      go_loopw [8, 47] (fun e i wr => ∃ k : Nat, k ≤ n1 + 1 ∧ i = .int .i64 k ∧ e = .int .i64 (ends k) ∧ Below w6.heap.size w6 wr) (fun _ i _ => n1 + 1 - (intOf i).toNat)
      case atStart => exact ⟨0, Nat.zero_le _, rfl, (by rw [F6.out.zero]; rfl), below_drewN (Below.refl _ _) q7⟩
      case round =>
        obtain ⟨k, hk, rfl, rfl, hB⟩ := hrel
        by_cases hlt : k < n1 + 1
        · have hky : k < (toks js).length := by rw [F1.out]; exact hlt
          have hy : (toks js)[k]? = some ((toks js)[k]'hky) := List.getElem?_eq_getElem hky
          generalize (toks js)[k]'hky = y at hy
          obtain ⟨a0, a1, a2⟩ := Hi6.out k y hy
          have c0 := (hB.cell (p := ⟨g5, k * 3, none⟩) Hg6.out).trans a0
          have c1 := (hB.cell (p := ⟨g5, k * 3 + 1, none⟩) Hg6.out).trans a1
          have c2 := (hB.cell (p := ⟨g5, k * 3 + 2, none⟩) Hg6.out).trans a2
          obtain ⟨s1, s2, s3, s4, s5⟩ := F6.out.step k y hy
          have hjs : js.size ≤ 16080 := by have := F3.out; omega
          clear a0 a1 a2 hy
          obtain ⟨kd, tx, st, sp, er⟩ := y
          simp only at c0 c1 c2 s1 s2 s3 s4 s5
          obtain ⟨E, hE⟩ : ∃ E, ends k = E := ⟨_, rfl⟩
          obtain ⟨E', hE'⟩ : ∃ E', ends (k + 1) = E' := ⟨_, rfl⟩
          rw [hE] at s1 s2 ⊢
          rw [hE'] at s3 s4
          have d1 : decide ((st : Int) < (E : Int)) = false := decide_eq_false (by omega)
          have d2 : decide (((E : Int) + 1) < (st : Int)) = false := decide_eq_false (by omega)
          have d3 : decide ((js.size : Int) < (st : Int) + (tx.size : Int)) = false := decide_eq_false (by omega)
          have d1' : decide (st < E) = false := decide_eq_false (by omega)
          have d2' : decide (E + 1 < st) = false := decide_eq_false (by omega)
          have d3' : decide (js.size < st + tx.size) = false := decide_eq_false (by omega)
          have d4 : ((js.extract st E').toList == tx.toList) = true := by rw [← s3, s5]; simp
          have hbr := hB.size
          have HB := Lib.hid hB; clear hB
          have HE' := Lib.hid hE'; clear hE' hE
          go_wp2
          go_quiet (fail)
          go_wp2
          go_roundw
          case rel => exact ⟨k + 1, by omega, by go_num, (by rw [HE'.out, ← s3]; rfl), below_drewN (HB.out.alloc hbr _) nq⟩
          case measure => simp [intOf]; omega
        · have hkn : k = n1 + 1 := by omega
          subst hkn
          have HB := Lib.hid hB; clear hB
          rw [F6.out.last]
          have hbj : Below w.heap.size w wr := Hb6.out.trans (HB.out.mono Hb6.out.size)
          have hit : itemsAt wr g5 (toks js) := itemsAt_below Hi6.out Hg6.out HB.out
          have C7 := Lib.hid (join_any g5 (n1 + 1) cap5 ((toks js).map tkS) m wr (by rw [List.length_map]; exact F1.out.symm) (by omega) h80 (fun x hx => by
            obtain ⟨y, hy, rfl⟩ := List.mem_map.1 hx
            obtain ⟨i, hi, rfl⟩ := List.getElem_of_mem hy
            have hix : i < xs.length := by have h1 := F1.out; have h2 := Hn.out; omega
            have h5 := F5.out i _ _ (List.getElem?_eq_getElem hix) (List.getElem?_eq_getElem hi)
            show ((toks js)[i]).text.size ≤ 200
            rw [h5.2]
            exact Hsz.out _ (List.getElem_mem hix)) (Nat.lt_of_lt_of_le Hg6.out HB.out.size) (tks_items hit) (Ht.out.below hbj) (Max.below Hm.out hbj))
          rw [F4.out] at C7
          have Hbj := Lib.hid hbj; clear hbj hit
          have d5 : (js.toList == js.toList) = true := by simp
          go_wp2_with fail
          refine C7.out.mono ?_; rintro e w8 ⟨rfl, hb8⟩
          have Hb8 := Lib.hid (Hbj.out.trans (hb8.mono Hbj.out.size)); clear hb8 C7
          go_wp2_with fail
          refine (awake_any m _ (Ht.out.below Hb8.out) (Max.below Hm.out Hb8.out)).mono ?_; rintro e w9 ⟨rfl, hb9⟩
          have Hb9 := Lib.hid (Hb8.out.trans (hb9.mono Hb8.out.size)); clear hb9
          go_wp2
          go_ret
          exact ⟨rfl, Hb9.out⟩
    · have d0 : (je != 0) = true := by simpa using h0
      go_wp2_with fail
      refine (awake_any m _ (Ht.out.below Hb4.out) (Max.below Hm.out Hb4.out)).mono ?_; rintro e w5 ⟨rfl, hb5⟩
      have Hb5 := Lib.hid (Hb4.out.trans (hb5.mono Hb4.out.size)); clear hb5
      go_wp2
      go_ret
      exact ⟨rfl, Hb5.out⟩
end Go.Proofs.YtokdoklkaojheaaDoor

namespace Go.Proofs.YtokdoklkaojheaaDoor
open Go.RowKit Go.Shelf

theorem toks_nil : toks ⟨#[]⟩ = [] := by decide +kernel

set_option maxHeartbeats 4000000 in
set_option maxRecDepth 100000 in
theorem law_returns_zero (a : Option Addr) (c : Nat) (m : Int) (w : World) (ht : Tab w) (hm : w.cell? ⟨2, 0, none⟩ = some (.int .i64 m)) :
    Calls Tryd.prog 7 #[.slice a 0 c] w fun e w' => e = .returned (.bool true) ∧ Below w.heap.size w w' := by
  have Ht := Lib.hid ht; have Hm := Lib.hid hm
  clear ht hm
  go_enter Tryd.func7, Tryd.ntmps7
  go_wp2_with fail
  refine (short_zero a c w).mono ?_; rintro e w1 ⟨rfl, rfl⟩
  go_wp2_with fail
  refine (theirs_zero a c w).mono ?_; rintro e w3 ⟨rfl, rfl⟩
  go_wp2_with fail
  refine (join_nil m w Ht.out Hm.out).mono ?_; rintro e w4 ⟨rfl, hb4⟩
  have Hb4 := Lib.hid hb4; clear hb4
  go_wp2_with fail
  refine (tokens_any ⟨#[]⟩ m w4 (Ht.out.below Hb4.out) (Max.below Hm.out Hb4.out)).mono ?_; rintro e w5 ⟨v, off, err, rfl, htok, hb5⟩
  obtain ⟨_, hv, rfl, rfl⟩ := tok_out htok (by decide) (by rw [toks_nil]; rfl) (by rw [toks_nil]; decide)
  obtain rfl := hv.2 toks_nil
  have Hb5 := Lib.hid (Hb4.out.trans (hb5.mono Hb4.out.size)); clear hb5 htok hv
  go_wp2_with fail
  refine (ours_nil w5).mono ?_; rintro e w6 ⟨rfl, hb6⟩
  have Hb6 := Lib.hid (Hb5.out.trans (hb6.mono Hb5.out.size)); clear hb6
  go_wp2_with fail
  refine (sameWords_zero none a 0 c w6).mono ?_; rintro e w7 ⟨rfl, q7, rfl⟩
  go_wp2_with fail
  go_loopw [8, 47] (fun e i wr => i = .int .i64 0 ∧ e = .int .i64 0 ∧ wr = w6.drewN q7) (fun _ _ _ => 0)
  case atStart => exact ⟨rfl, rfl, rfl⟩
  case round =>
    obtain ⟨rfl, rfl, rfl⟩ := hrel
    have HB7 := Lib.hid (below_drewN Hb6.out q7)
    go_wp2_with fail
    refine (join_nil m _ (Ht.out.below HB7.out) (Max.below Hm.out HB7.out)).mono ?_; rintro e w8 ⟨rfl, hb8⟩
    have Hb8 := Lib.hid (HB7.out.trans (hb8.mono HB7.out.size)); clear hb8
    go_wp2_with fail
    refine (awake_any m _ (Ht.out.below Hb8.out) (Max.below Hm.out Hb8.out)).mono ?_; rintro e w9 ⟨rfl, hb9⟩
    have Hb9 := Lib.hid (Hb8.out.trans (hb9.mono Hb8.out.size)); clear hb9
    go_wp2
    go_ret
    exact ⟨rfl, Hb9.out⟩
end Go.Proofs.YtokdoklkaojheaaDoor

namespace Go.Proofs.YtokdoklkaojheaaDoor
open Go.ChangeShapes Go.WideShapes Go.ChangeAt Go.WideMaps Go.WideElems Go.RowKit
open Go.ChangeMaps (open_string)

set_option maxRecDepth 100000 in
theorem lexReturns_lifted (os : Os) (started : os.Started) (H : Type) (enc : TypeId × Value → H) :
    ReturnsInHanded {} Tryd.checked os 7 .any (fun w args => (Rows.lexReturnsSpec.pre enc Tryd.prog Tryd.f7 [] false w args ∧ laidMetH Tryd.prog laidL w) ∧ sizedMet enc Tryd.prog Tryd.f7 (OpenSpec.ofChange Rows.lexReturnsSpec) false w args)
      (Rows.lexReturnsSpec.post enc Tryd.prog Tryd.f7 false true false false) := by
  refine returnsInHanded_of_calls (C := Tryd.checked) own started (by kernel_rfl)
    (ChangeSpec.witness_shaped (enc := enc) (C := Tryd.checked) (os := os) (fn := Tryd.f7) (X := fun w _ => laidMetH Tryd.prog laidL w) false (World.doorLaid Tryd.prog 400 os) #[.slice none 0 0] 8 rfl (World.shaped_of_RefB (by kernel_rfl) (by kernel_rfl)) (by kernel_rfl) (by kernel_rfl) (by kernel_rfl) (door_met os _)) ?_
  intro w tape i _ hsh _ hok hpre _
  obtain ⟨_, _, _, fn', hfn', _, _, _, _, hval0⟩ := hok
  obtain rfl : fn' = Tryd.f7 := Option.some.inj (hfn'.symm.trans Tryd.func7)
  obtain ⟨⟨⟨ds, gs, before, hw, _⟩, hL0⟩, _⟩ := hpre
  have hW' := DataW.Whole.of_heap (w' := w.forCall tape i) (by rfl) hw
  have hL : laidMetH Tryd.prog laidL (w.forCall tape i) := hL0.of_heap (by rfl)
  obtain ⟨args, hargs⟩ : ∃ args, i.args = args := ⟨_, rfl⟩
  obtain ⟨W, hWW⟩ : ∃ W, w.forCall tape i = W := ⟨_, rfl⟩
  rw [hargs] at hW' hval0 ⊢
  rw [hWW] at hW' hval0 hL hsh ⊢
  clear hw hL0 hWW hargs
  have ht := tab_of_laid hL
  obtain ⟨m, hm⟩ := max_of_shape hsh
  clear hL hsh
  have hval : ∀ (j : Nat) t v, Tryd.f7.params[j]? = some t → args[j]? = some v → Value.okWide Tryd.prog W .any w.heap.size t v := hval0
  have hW := hW'
  obtain ⟨p, q, hA0, hV, rfl, _, _⟩ := hW
  have hA : DataW.TrodAll enc Tryd.prog W 0 (fun _ => true) true Tryd.f7.params.toList args.toList ds p := hA0
  rw [Tryd.params7] at hA hval
  obtain ⟨v0, d0, rfl, rfl, h0⟩ := trodAll_one hA
  obtain ⟨rfl, rfl⟩ := trodVars_none hV
  clear hA0 hval0
  simp only [List.append_nil] at hW'
  have hlt : ∀ x ∈ p, x.block < W.heap.size := fun x hx => by simpa using hW'.lt x hx
  have k0 := h0
  have key : Calls Tryd.prog 7 #[v0] W fun e w' => e = .returned (.bool true) ∧ Below W.heap.size W w' := by
    rcases open_tokens (hval 0 23 v0 rfl rfl) k0 with ⟨a, c, rfl⟩ | ⟨b, o, n, c, xs, rfl, hn, hn63, hx, hb⟩
    · exact law_returns_zero a c m W ht hm
    · rcases Nat.eq_zero_or_pos n with h | h
      · rw [h]; exact law_returns_zero _ c m W ht hm
      · exact law_returns b o n c xs m W hn h hn63 hb hx ht hm
  refine key.mono fun e W' ⟨he, hb⟩ => ?_
  subst he
  have g0 := Below.trod laidOut (by kernel_rfl) (of_decide_eq_true (by kernel_rfl)) h0 hb hlt
  have hp : Rows.lexReturnsSpec.post enc Tryd.prog Tryd.f7 false true false false W #[v0] (.bool true) W' :=
    ⟨_, _, _, [], _, [], hW', trodAll_mk1 (shut_bool Tryd.underlying4 _), trodAll_mk1 g0, rfl, hb.frame _, fun h => by cases h⟩
  exact ChangeSpec.post_blind hp

theorem lexReturns_holds : Rows.LexReturnsSaid :=
  OpenClaim.holds_of_wide 7 Tryd.f7 rfl rfl rfl rfl rfl rfl rfl ⟨rfl, rfl, rfl, rfl, rfl⟩ rfl rfl rfl rfl rfl (by kernel_rfl) Tryd.func7 (by kernel_rfl)
    (of_decide_eq_true (by kernel_rfl)) (by unfold Func.isWrapper; first | (rw [if_pos (by decide +kernel)]; kernel_rfl) | (rw [if_neg (by decide +kernel)]; exact ⟨rfl, rfl⟩))
    (fun os started H enc _ => lexReturns_lifted os started H enc)

/-- LexReturns: whatever the input, the law returns true; the listed variables are tied to the program's text. -/
theorem lexReturns_card : Rows.LexReturnsCardSaid :=
  Claim7.holds_tied_plain_at .later [] [.listed, .data] true (true, "4b6ac7f4204d840c3deb2d329c5c600e273d2448acafc67f7f384ac8ed2bc502") false
    lexReturns_holds (fun _ h => by cases h) (by kernel_rfl) (fun _ h => by cases h) lexReturns_row_tie rfl ⟨rfl, rfl⟩ (by kernel_rfl) rfl
    (fun f fn hf hfn => by
      obtain rfl : f = 7 := Option.some.inj ((show Tryd.prog.funcNamed "entail/entaillaw03.LexReturns" = some 7 by kernel_rfl).symm.trans hf) |>.symm
      obtain rfl : fn = Tryd.f7 := (Option.some.inj (Tryd.func7.symm.trans hfn)).symm
      exact ⟨by kernel_rfl, fun j t ht => by
        rw [Tryd.params7] at ht
        match j, ht with
        | 0, ht => obtain rfl : t = 23 := by simpa using ht.symm
                   exact (show Tryd.prog.wantsStandIn 23 = false by kernel_rfl)
        | j + 1, ht => simp at ht⟩)
    (by kernel_rfl)
#print axioms lexReturns_card
end Go.Proofs.YtokdoklkaojheaaDoor

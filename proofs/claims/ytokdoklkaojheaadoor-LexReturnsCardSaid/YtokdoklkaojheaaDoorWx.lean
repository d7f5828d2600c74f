import Derived.RangeFuncBox
import Derived.Maps.AppendAt
import Derived.Test.YtokdoklkaojheaaDoorWw
namespace Go.Proofs.YtokdoklkaojheaaDoor
open Go.RowKit Go.Shelf
attribute [local go_sem] Oper.semAt_some

theorem places_stops (n : Nat) (hn : 1 ≤ n) (s : ByteArray) (hs : s.size ≤ 65536) (kb sb bs bk : Nat) (m : Int) (w : World) (hH : Held s kb sb bs bk m w) :
    SeqStopsK Fence.wide n Tryd.prog 71 #[.pointer (some ⟨bs, 0, none⟩), .pointer (some ⟨bk, 0, none⟩)] encI (Kept [2, kb, sb, bs, bk]) (fun xs => xs = toks s) (fun pre => pre <+: toks s) (toks s).length w :=
  fun l J Jx W hW hJ _ hY h0 => places1_in n hn s hs kb sb bs bk m l J Jx
    (fun pre A B hA hb => hJ pre A B none hA ⟨hb.os, hb.tape, hb.output, hb.size, fun k hk _ => hb.block k hk⟩ (fun _ e => by cases e)) hY W (hH.below hW) h0

theorem toksF_len (s : ByteArray) : ∀ g at_, (toksF s g at_).length ≤ g
  | 0, _ => by simp [toksF]
  | g + 1, at_ => by
    obtain ⟨⟨p, e0⟩, hp⟩ : ∃ pe, skipL s.data.toList at_ = pe := ⟨_, rfl⟩
    rw [toksF_succ s g at_ p e0 hp]
    split
    · split
      · simp
      · split
        · have := toksF_len s g (p + (readAt s p).2.1)
          simp; omega
        · simp
    · simp
theorem toks_len (s : ByteArray) : (toks s).length ≤ s.size + 1 := toksF_len s _ _

def tokCells (x : Item) : List Value := [.int .i64 x.kind, .string x.text, .int .i64 x.start]
def rowL (xs : List Item) : List Value := xs.flatMap tokCells
theorem rowL_snoc (pre : List Item) (x : Item) : rowL (pre ++ [x]) = rowL pre ++ tokCells x := by simp [rowL]
theorem rowL_len (xs : List Item) : (rowL xs).length = xs.length * 3 := by
  induction xs with
  | nil => rfl
  | cons x xs ih => simp [rowL, tokCells] at ih ⊢; omega
def badTok (x : Item) : Bool := decide (x.err ≠ 0)

/-- what Tokens returns -/
def TokOut (s : ByteArray) (base : Nat) (w' : World) (v : Value) (off err : Int) : Prop :=
  if 65536 < s.size then v = .slice none 0 0 ∧ off = 0 ∧ err = 23
  else match (toks s).find? badTok with
    | some x => v = .slice none 0 0 ∧ off = x.start ∧ err = x.err
    | none => if 20000 < (toks s).length then v = .slice none 0 0 ∧ (∃ x, (toks s)[20000]? = some x ∧ off = x.start) ∧ err = 5
      else w'.ownsRow base 59 3 v (toks s).length (rowL (toks s)) ∧ (v = .slice none 0 0 ↔ toks s = []) ∧ off = 0 ∧ err = 0

theorem Tryd.info59 : (Tryd.prog.info? 59).map (fun i => (i.zero, i.size, i.bytes)) = some (some (.agg #[.int .i64 0, .string ⟨#[]⟩, .int .i64 0]), 3, 32) := by kernel_rfl

theorem three_new (w : World) (a b c : Value) (t : TypeId) : ∀ (j : Nat) (u : Value), [a, b, c][j]? = some u → (w.alloc (.cells #[a, b, c] t)).cell? ((⟨w.heap.size, 0, none⟩ : Addr).add j) = some u
  | 0, _, h => by simp [Addr.add] at h ⊢; exact h
  | 1, _, h => by simp [Addr.add] at h ⊢; exact h
  | 2, _, h => by simp [Addr.add] at h ⊢; exact h
  | j + 3, _, h => by simp at h

theorem ownsRow_mono {W : World} {base base' : Nat} {e : TypeId} {size : Nat} {v : Value} {k : Nat} {xs : List Value} (hb : base' ≤ base) (h : W.ownsRow base e size v k xs) : W.ownsRow base' e size v k xs := by
  refine ⟨h.1, ?_⟩
  rcases h.2 with h | ⟨g, cap, cur, h1, h2, h3⟩
  · exact .inl h
  · exact .inr ⟨g, cap, cur, h1, by omega, h3⟩

theorem _root_.Go.Boxed.keptApp {K : List Nat} {W w1 : World} {base B k : Nat} {v v' : Value} {xs : List Value} {tmp : Obj} (hv : Boxed W B 26 v) (hrow : W.ownsRow base 59 3 v k xs) (hbase : base ≤ W.heap.size)
    (hK : ∀ b ∈ K, b < base ∧ b ≠ B) (hgrow : (W.alloc tmp).grownBy w1 v.ownBlock) : Kept K W (w1.setCell ⟨B, 0, none⟩ v') := by
  have hown : ∀ b c f, W.heap[b]? = some (Obj.cells c 126 f) → some b ≠ v.ownBlock := by
    intro b c f hb e
    rcases hrow.2 with ⟨rfl, _⟩ | ⟨g, cap, cur, rfl, _, hg, _⟩
    · cases e
    · cases e; rw [hb] at hg; cases hg
  have hown2 : ∀ b ∈ K, some b ≠ v.ownBlock := by
    intro b hb e
    rcases hrow.2 with ⟨rfl, _⟩ | ⟨g, cap, cur, rfl, hg, _⟩
    · cases e
    · have e2 : b = g := by simpa [Value.ownBlock] using e
      have := (hK _ hb).1; omega
  have hsz : W.heap.size + 1 ≤ w1.heap.size := by have := hgrow.size; simpa using this
  refine ⟨?_, fun b hb => ?_, fun b c f hb => ?_⟩
  · show W.heap.size ≤ (w1.heap.modify B _).size; simp; omega
  · have h1 := (hK b hb).1
    exact (Below.heap_setCell _ _ _ b (hK b hb).2).trans ((hgrow.block b (by simp; omega) (hown2 b hb)).trans (heap_alloc_lt (by omega)))
  · have hlt := (Array.getElem?_eq_some_iff.1 hb).1
    have hne : b ≠ B := by
      rintro rfl
      have : W.heap[b]? = some (.cells #[v] 26 (0, 0)) := hv
      rw [hb] at this; cases this
    exact (Below.heap_setCell _ _ _ b hne).trans ((hgrow.block b (by simp; omega) (hown b c f hb)).trans ((heap_alloc_lt hlt).trans hb))
theorem blk_own {β : Type} (B : Nat) (c : Array Value) (t : TypeId) (f : Nat × Nat) : Own (fun (_ : β) W => W.heap[B]? = some (.cells c t f)) := fun s X Y row hs hg hrow =>
  (hg.block B (Array.getElem?_eq_some_iff.1 hs).1 (fun e' => by obtain ⟨o, ho, hc⟩ := hrow B e'.symm; rw [hs] at ho; cases ho; cases hc)).trans hs

theorem Kept.putObj {K : List Nat} {B : Nat} (hK : ∀ b ∈ K, b < B) (W : World) (l : Nat) (o o' : Obj) (hl : B ≤ l) (h : W.heap[l]? = some o) (hc : o.isCells = false) (_ : o.isWalk = false) : Kept K W (W.putObj l o') := by
  have hg := grownBy_putObj' W l o'
  refine ⟨hg.size, fun b hb => World.putObj_heap_other (by have := hK b hb; omega), fun b c f hb => (World.putObj_heap_other ?_).trans hb⟩
  rintro rfl
  rw [hb] at h; cases h; cases hc
theorem rowL_start : ∀ (xs : List Item) (i : Nat) (x : Item), xs[i]? = some x → (rowL xs)[i * 3 + 2]? = some (.int .i64 x.start)
  | [], _, _, h => by simp at h
  | y :: ys, 0, x, h => by simp at h; subst h; rfl
  | y :: ys, i + 1, x, h => by
    have := rowL_start ys i x (by simpa using h)
    show (tokCells y ++ rowL ys)[(i + 1) * 3 + 2]? = _
    rw [List.getElem?_append_right (by simp [tokCells]; omega)]
    rw [show (i + 1) * 3 + 2 - (tokCells y).length = i * 3 + 2 by simp [tokCells]; omega]
    exact this
theorem find_bad {xs pre' : List Item} {x : Item} (h : pre' ++ [x] <+: xs) (he : x.err ≠ 0) (hok : ∀ y ∈ pre', y.err = 0) : xs.find? badTok = some x := by
  obtain ⟨r, rfl⟩ := h
  rw [List.append_assoc, List.find?_append, List.find?_eq_none.2 (fun y hy => by simp [badTok, hok y hy])]
  simp [badTok, he]
theorem find_ok {xs : List Item} (h : ∀ x ∈ xs, x.err = 0) : xs.find? badTok = none := List.find?_eq_none.2 (fun y hy => by simp [badTok, h y hy])
theorem Boxed.kept' {A B : World} {row : Option Nat} {b : Nat} {t : TypeId} {v : Value} {n : Nat} (h : Boxed A b t v) (hg : A.grownBy B row) (hr : ∀ r, row = some r → n ≤ r ∧ ∃ o : Obj, A.heap[r]? = some o ∧ o.isCells = false) : Boxed B b t v :=
  boxed_own b t (fun (_ : Unit) => v) () A B row h hg (fun r e => (hr r e).2)

def set3 (W : World) (b : Nat) (r0 r1 r2 : Value) : World := ((W.setCell ⟨b, 0, none⟩ r0).setCell ⟨b + 1, 0, none⟩ r1).setCell ⟨b + 1 + 1, 0, none⟩ r2
theorem set3_facts {W : World} {b : Nat} {v0 v1 v2 : Value} (C0 : Boxed W b 26 v0) (C1 : Boxed W (b + 1) 3 v1) (C2 : Boxed W (b + 1 + 1) 27 v2) (r0 r1 r2 : Value) :
    Boxed (set3 W b r0 r1 r2) b 26 r0 ∧ Boxed (set3 W b r0 r1 r2) (b + 1) 3 r1 ∧ Boxed (set3 W b r0 r1 r2) (b + 1 + 1) 27 r2 ∧ KeepsOthers W (set3 W b r0 r1 r2) ∧
      (∀ {a : World}, Below b a W → Below b a (set3 W b r0 r1 r2)) ∧ (∀ {base k : Nat} {v : Value} {xs : List Value}, W.ownsRow base 59 3 v k xs → (set3 W b r0 r1 r2).ownsRow base 59 3 v k xs) := by
  refine ⟨((C0.set r0).other (by omega) r1).other (by omega) r2, ((C1.other (by omega) r0).set r1).other (by omega) r2, ((C2.other (by omega) r0).other (by omega) r1).set r2,
    ((KeepsOthers.setCell _ _ _).trans (KeepsOthers.setCell _ _ _)).trans (KeepsOthers.setCell _ _ _), fun h => ((h.setCell (p := ⟨b, 0, none⟩) (Nat.le_refl _) _).setCell (p := ⟨b + 1, 0, none⟩) (by simp) _).setCell (p := ⟨b + 1 + 1, 0, none⟩) (by simp; omega) _, ?_⟩
  intro base k v xs h
  have h1 := h.kept (grownBy_setCell' W b r0) (.inr (C0.not_row (by decide) h).symm)
  have h2 := h1.kept (grownBy_setCell' _ (b + 1) r1) (.inr ((C1.other (B' := b) (by omega) r0).not_row (by decide) h1).symm)
  exact h2.kept (grownBy_setCell' _ (b + 1 + 1) r2) (.inr (((C2.other (B' := b) (by omega) r0).other (B' := b + 1) (by omega) r1).not_row (by decide) h2).symm)
theorem cell_shut {W : World} {D b : Nat} {t : TypeId} {v : Value} (hK : W.heap[D]? = some (.deferred (some []))) (h : Boxed W b t v) : (W.putObj D (.deferred none)).cell? ⟨b, 0, none⟩ = some v :=
  (Boxed.kept' (n := 0) h (grownBy_putObj' W D (.deferred none)) (fun r e => by cases e; exact ⟨Nat.zero_le _, _, hK, rfl⟩)).cell

set_option maxRecDepth 100000 in
set_option maxHeartbeats 4000000 in
theorem tokens_in (n : Nat) (hn : 6 ≤ n) (s : ByteArray) (m : Int) (w : World) (ht : Tab w) (hm : w.cell? ⟨2, 0, none⟩ = some (.int .i64 m)) :
    CallsIn Fence.wide n Tryd.prog 10 #[.string s] w fun e w' => ∃ v off err, e = .returned (.tuple #[v, .int .i64 off, .int .i64 err]) ∧ TokOut s w.heap.size w' v off err ∧ Below w.heap.size w w' := by
  have h1 : 1 ≤ n := by omega
  refine callsIn_of_wp_marks Tryd.func10 rfl trivial ?_ rfl
  simp only [Tryd.ntmps10, List.size_toArray, List.length_cons, List.length_nil, Nat.reduceAdd, Nat.reduceSub, Array.replicate_succ, Array.replicate_zero, List.push_toArray, List.append_toArray, List.nil_append, List.cons_append]
  by_cases hs : s.size > 65536
  · have hck : ckText (s.size : Int) = 23 := by unfold ckText; rw [if_pos (by omega)]
    gi_wp2_with fail
    refine ⟨trivial, (callsIn_wide.2 (checkText_any s _)).mono ?_⟩; rintro e w1 ⟨rfl, rfl⟩
    rw [hck]
    gi_wp2
    refine ⟨.tuple #[.slice none 0 0, .int .i64 0, .int .i64 23], by simp [results, Tryd.results10, go_sem], _, _, _, rfl, ?_, ?_⟩
    · unfold TokOut; rw [if_pos (by omega)]; exact ⟨rfl, rfl, rfl⟩
    · exact (((Below.refl _ w).alloc (Nat.le_refl _) _).alloc (by simp) _).alloc (by simp; omega) _
  · obtain ⟨i0, hi, iz0, iz1, iz2⟩ := info_parts Tryd.info59
    have hck : ckText (s.size : Int) = 0 := by unfold ckText; rw [if_neg (by omega)]
    gi_wp2_with fail
    refine ⟨trivial, (callsIn_wide.2 (checkText_any s _)).mono ?_⟩; rintro e w1 ⟨rfl, rfl⟩
    rw [hck]
    gi_wp2_with fail
    refine ⟨trivial, (callsIn_wide.2 (newScanner_any _ ((((ht.alloc _).alloc _).alloc _).alloc _))).mono ?_⟩; rintro e w1 ⟨kb, sb, rfl, hsc, hkb, hsb, hb1⟩
    have b0 : Boxed w1 w.heap.size 26 (.slice none 0 0) := (hb1.block _ (by simp; omega)).trans ((((Boxed.new w 26 (.slice none 0 0)).alloc _).alloc _).alloc _)
    have b1 : Boxed w1 (w.heap.size + 1) 3 (.int .i64 0) := by
      have := ((Boxed.new (w.alloc (.cells #[.slice none 0 0] 26)) 3 (.int .i64 0)).alloc (.cells #[.int .i64 0] 27)).alloc (.cells #[.slice none 0 0] 26)
      rw [World.size_alloc] at this
      exact (hb1.block _ (by simp)).trans this
    have b2 : Boxed w1 (w.heap.size + 1 + 1) 27 (.int .i64 0) := by
      have := ((Boxed.new ((w.alloc (.cells #[.slice none 0 0] 26)).alloc (.cells #[.int .i64 0] 3)) 27 (.int .i64 0))).alloc (.cells #[.slice none 0 0] 26)
      rw [World.size_alloc, World.size_alloc] at this
      exact (hb1.block _ (by simp)).trans this
    have b3 : Boxed w1 (w.heap.size + 1 + 1 + 1) 26 (.slice none 0 0) := by
      have := Boxed.new (((w.alloc (.cells #[.slice none 0 0] 26)).alloc (.cells #[.int .i64 0] 3)).alloc (.cells #[.int .i64 0] 27)) 26 (.slice none 0 0)
      rw [World.size_alloc, World.size_alloc, World.size_alloc] at this
      exact (hb1.block _ (by simp)).trans this
    have hz1 : w.heap.size + 4 ≤ w1.heap.size := by have := hb1.size; simp at this; omega
    have hw2 := World.block_lt_of_cell? _ _ hm
    have hbw : Below w.heap.size w w1 := ((((((Below.refl _ w).alloc (Nat.le_refl _) _).alloc (by simp) _).alloc (by simp; omega) _).alloc (by simp; omega) _)).trans (hb1.mono (by simp; omega))
    have hm1 : w1.cell? ⟨2, 0, none⟩ = some (.int .i64 m) := (hbw.cell (p := ⟨2, 0, none⟩) hw2).trans hm
    simp only [World.size_alloc] at hkb hsb
    clear hb1 hm
    gi_wp2_with fail
    refine ⟨trivial, (callsIn_wide.2 (places_any s kb sb _)).mono ?_⟩; rintro e w9 ⟨rfl, rfl⟩
    have hH : Held s kb sb (w1.heap.size + 1) w1.heap.size m ((w1.alloc (.cells #[.map (some kb), .map (some sb)] 69)).alloc (.cells #[.string s] 9)) := by
      refine ⟨(((below_two w1 _ _).cell (p := ⟨2, 0, none⟩) (by show 2 < w1.heap.size; omega)).trans hm1), hsc.below hsc.lt.1 hsc.lt.2 (below_two w1 _ _), by simp [World.cell?_alloc_lt], by simp [World.cell?_alloc_lt], by simp [World.cell?_alloc_lt]⟩
    have hB0 := hbw.trans ((below_two w1 (.cells #[.map (some kb), .map (some sb)] 69) (.cells #[.string s] 9)).mono hbw.size)
    have hsz : ((w1.alloc (.cells #[.map (some kb), .map (some sb)] 69)).alloc (.cells #[.string s] 9)).heap.size = w1.heap.size + 2 := by simp
    have B0 := (b0.alloc (.cells #[.map (some kb), .map (some sb)] 69)).alloc (.cells #[.string s] 9)
    have B1 := (b1.alloc (.cells #[.map (some kb), .map (some sb)] 69)).alloc (.cells #[.string s] 9)
    have B2 := (b2.alloc (.cells #[.map (some kb), .map (some sb)] 69)).alloc (.cells #[.string s] 9)
    have B3 := (b3.alloc (.cells #[.map (some kb), .map (some sb)] 69)).alloc (.cells #[.string s] 9)
    obtain ⟨W0, hW0⟩ : ∃ W0, (w1.alloc (.cells #[.map (some kb), .map (some sb)] 69)).alloc (.cells #[.string s] 9) = W0 := ⟨_, rfl⟩
    rw [hW0] at hH hB0 hsz B0 B1 B2 B3 ⊢
    clear hW0 b0 b1 b2 b3 hm1 ht
    have hsl := hsc.lt
    clear hsc hbw
    gi_wp2_with fail
    have hKl : ∀ b ∈ [2, kb, sb, w1.heap.size + 1, w1.heap.size], b < W0.heap.size := by
      intro b hb; simp only [List.mem_cons, List.not_mem_nil, or_false] at hb; omega
    refine wpIn_rangeFunc_ownH rfl h1 (gf := 71) (lb := #[.pointer (some ⟨w1.heap.size + 1, 0, none⟩), .pointer (some ⟨w1.heap.size, 0, none⟩)]) rfl trivial (enters_of Tryd.func71 (by kernel_rfl) rfl)
      (places_stops (n - 1) (by omega) s (by omega) kb sb (w1.heap.size + 1) w1.heap.size m W0 hH) (fun h k => h.trans k) (Kept.putObj hKl) (Below.refl _ _) (fun _ => rfl)
      (fun pre W => ((((∃ v, Boxed W (w.heap.size + 1 + 1 + 1) 26 v ∧ W.ownsRow W0.heap.size 59 3 v pre.length (rowL pre) ∧ ((v = .slice none 0 0 ↔ pre = []) ∧ ∀ x ∈ pre, x.err = 0)) ∧ Boxed W w.heap.size 26 (.slice none 0 0)) ∧ Boxed W (w.heap.size + 1) 3 (.int .i64 0)) ∧ Boxed W (w.heap.size + 1 + 1) 27 (.int .i64 0)) ∧ (Below w.heap.size w W ∧ W0.heap.size ≤ W.heap.size))
      (fun c pre W => (c = .ret ∧ ∃ pre' x, pre = pre' ++ [x] ∧ x.err ≠ 0 ∧ (∀ y ∈ pre', y.err = 0) ∧ Boxed W w.heap.size 26 (.slice none 0 0) ∧ Boxed W (w.heap.size + 1) 3 (.int .i64 x.start) ∧ Boxed W (w.heap.size + 1 + 1) 27 (.int .i64 x.err)) ∧ Below w.heap.size w W)
      (OwnFrom.and (OwnFrom.and (OwnFrom.and (OwnFrom.and (Own.from (holdsRow_own W0.heap.size (w.heap.size + 1 + 1 + 1) 26 59 3 (fun pre => pre.length) rowL (fun pre v => (v = .slice none 0 0 ↔ pre = []) ∧ ∀ x ∈ pre, x.err = 0)) _) (Own.from (boxed_own _ _ _) _)) (Own.from (boxed_own _ _ _) _)) (Own.from (boxed_own _ _ _) _)) (OwnFrom.and (ownFrom_below (Nat.le_refl _) (by omega)) (fun _ A B row hs hg hr => Nat.le_trans hs hg.size)))
      (fun c => OwnFrom.and (fun _ A B row hs hg hr => by obtain ⟨h1, pre', x, h2, h3, h4, h5, h6, h7⟩ := hs; exact ⟨h1, pre', x, h2, h3, h4, Boxed.kept' h5 hg hr, Boxed.kept' h6 hg hr, Boxed.kept' h7 hg hr⟩) (ownFrom_below (Nat.le_refl _) (by omega)))
      ⟨⟨⟨⟨⟨_, B3, World.ownsRow_nil _ _ _ _, by simp⟩, B0⟩, B1⟩, B2⟩, hB0, Nat.le_refl _⟩
      (fun x a' W => ∃ Bx, w.heap.size + 3 < Bx ∧ W.heap[Bx]? = some (.cells #[.int .i64 x.kind, .string x.text, .int .i64 x.start, .int .i64 x.stop] 73 (0, 0)) ∧ a' = { tmps := #[.string s, undef, .pointer (some ⟨w.heap.size, 0, none⟩), .pointer (some ⟨w.heap.size + 1, 0, none⟩), .pointer (some ⟨w.heap.size + 1 + 1, 0, none⟩), .int .i64 0, .pointer (some ⟨w.heap.size + 1 + 1 + 1, 0, none⟩), .pointer (some ⟨Bx, 0, none⟩), .int .i64 x.err, .string s, .int .i64 0, .int .i64 0, .bool false, undef, .agg #[.map (some kb), .map (some sb)], .string s, .func (.func 71) #[] #[.pointer (some ⟨w1.heap.size + 1, 0, none⟩), .pointer (some ⟨w1.heap.size, 0, none⟩)], .agg #[.int .i64 x.kind, .string x.text, .int .i64 x.start, .int .i64 x.stop], .int .i64 x.err, undef, undef, undef, undef, undef, undef, undef, undef, undef, undef, undef, undef, undef, undef, undef, undef, undef, undef, undef], defers := [] })
      (fun x a' _ X Y row hs hg hr => by obtain ⟨Bx, h1, h2, h3⟩ := hs; exact ⟨Bx, h1, blk_own Bx _ _ _ () X Y row h2 hg (fun r e => (hr r e).2), h3⟩)
      ?assign ?body ?done ?stop
    case assign =>
      rintro l pre x W K ⟨⟨⟨⟨⟨v, hv, hrow, hG⟩, C0⟩, C1⟩, C2⟩, hB, hW⟩ hK
      simp only [encI]
      gi_wp2
      exact hK _ _ ((KeepsOthers.alloc _ _).from _) (Kept.of_below ((Below.refl _ W).alloc (Nat.le_refl _) _) (fun b hb => Nat.lt_of_lt_of_le (hKl b hb) hW)) ⟨⟨⟨⟨⟨v, hv.alloc _, hrow.alloc _, hG⟩, C0.alloc _⟩, C1.alloc _⟩, C2.alloc _⟩, hB.alloc hB.size _, by simp; omega⟩ ⟨W.heap.size, by have := hv.lt; omega, heap_alloc_at _ _, rfl⟩
    case body =>
      rintro l pre x a' W hl _ ⟨⟨⟨⟨⟨v, hv, hrow, hG⟩, C0⟩, C1⟩, C2⟩, hB, hW⟩ ⟨Bx, hBx, hX, rfl⟩ hlt
      have x0 : W.cell? ⟨Bx, 0, none⟩ = some (.int .i64 x.kind) := by simp [World.cell?, hX]
      have x1 : W.cell? ⟨Bx, 1, none⟩ = some (.string x.text) := by simp [World.cell?, hX]
      have x2 : W.cell? ⟨Bx, 2, none⟩ = some (.int .i64 x.start) := by simp [World.cell?, hX]
      have x3 : W.cell? ⟨Bx, 3, none⟩ = some (.int .i64 x.stop) := by simp [World.cell?, hX]
      have hXl := (Array.getElem?_eq_some_iff.1 hX).1
      have c0 := C0.cell
      have c1 := C1.cell
      have c2 := C2.cell
      have c3 := hv.cell
      have f0 := C0.frozen
      have f1 := C1.frozen
      have f2 := C2.frozen
      have f3 := hv.frozen
      by_cases he : x.err = 0
      · have d0 : (x.err != 0) = false := by simpa using he
        have hpl : pre.length + 1 ≤ 65537 := by have := toks_len s; omega
        have hgeW : W0.heap.size ≤ (W.alloc (.cells #[.int .i64 x.kind, .string x.text, .int .i64 x.start] 59)).heap.size := by simp; omega
        clear c0 c1 c2 f0 f1 f2 hX
        gi_wp2_with (gi_at_builtin; refine wpListIn_append_own _ rfl _ _ 26 rfl W0.heap.size 59 i0 (.agg #[.int .i64 0, .string ⟨#[]⟩, .int .i64 0]) 3 32 Tryd.underlying26 hi iz0 iz1 iz2 rfl (by decide) _ _ _ rfl (hrow.alloc _) ⟨W.heap.size, 0, none⟩ 1 1 (tokCells x) rfl rfl (three_new _ _ _ _ _) (by simp [tokCells, Value.oneCell']) (by unfold maxLen; omega) (by omega) hgeW ?_; intro v' w3 hown' hgrow _; obtain ⟨g', cap', rfl⟩ := ownsRow_succ hown'; obtain ⟨hv1, hv2, hr2, hk2, hb2⟩ := hv.appended (by decide) (ownsRow_mono (by omega) hrow) hB.size (by omega) (ownsRow_mono (by omega) hown') hgrow; have hc1 := hv1.cell; have hf1 := hv1.frozen; have hrN := hown'.kept (grownBy_setCell' w3 (w.heap.size + 1 + 1 + 1) (.slice (some ⟨g', 0, none⟩) (pre.length + 1) cap')) (.inr (hv1.not_row (by decide) hown').symm))
        have E0 := ((C0.alloc (.cells #[.int .i64 x.kind, .string x.text, .int .i64 x.start] 59)).kept hgrow (C0.not_row (by decide) hrow)).other (B' := w.heap.size + 1 + 1 + 1) (by omega) (.slice (some ⟨g', 0, none⟩) (pre.length + 1) cap')
        have E1 := ((C1.alloc (.cells #[.int .i64 x.kind, .string x.text, .int .i64 x.start] 59)).kept hgrow (C1.not_row (by decide) hrow)).other (B' := w.heap.size + 1 + 1 + 1) (by omega) (.slice (some ⟨g', 0, none⟩) (pre.length + 1) cap')
        have E2 := ((C2.alloc (.cells #[.int .i64 x.kind, .string x.text, .int .i64 x.start] 59)).kept hgrow (C2.not_row (by decide) hrow)).other (B' := w.heap.size + 1 + 1 + 1) (by omega) (.slice (some ⟨g', 0, none⟩) (pre.length + 1) cap')
        refine ⟨hk2.from _, hv.keptApp hrow hW (fun b hb => ⟨hKl b hb, ?_⟩) hgrow, ⟨⟨⟨⟨_, hv2, ?_, ?_⟩, E0⟩, E1⟩, E2⟩, hB.trans hb2, ?_⟩
        · simp only [List.mem_cons, List.not_mem_nil, or_false] at hb; omega
        · rw [rowL_snoc, List.length_append]; exact hrN
        · refine ⟨by simp, fun y hy => ?_⟩
          rcases List.mem_append.1 hy with h | h
          · exact hG.2 y h
          · rw [List.mem_singleton.1 h]; exact he
        · exact Nat.le_trans hW hb2.size
      · have d0 : (x.err != 0) = true := by simpa using he
        have hfo : Tryd.prog.follows Departure.mixedOrders = true := by kernel_rfl
        have hV : KeepsFrom W0.heap.size W (((W.setCell ⟨w.heap.size, 0, none⟩ (.slice none 0 0)).setCell ⟨w.heap.size + 1, 0, none⟩ (.int .i64 x.start)).setCell ⟨w.heap.size + 1 + 1, 0, none⟩ (.int .i64 x.err)).drew ∧
            Boxed (((W.setCell ⟨w.heap.size, 0, none⟩ (.slice none 0 0)).setCell ⟨w.heap.size + 1, 0, none⟩ (.int .i64 x.start)).setCell ⟨w.heap.size + 1 + 1, 0, none⟩ (.int .i64 x.err)).drew w.heap.size 26 (.slice none 0 0) ∧
            Boxed (((W.setCell ⟨w.heap.size, 0, none⟩ (.slice none 0 0)).setCell ⟨w.heap.size + 1, 0, none⟩ (.int .i64 x.start)).setCell ⟨w.heap.size + 1 + 1, 0, none⟩ (.int .i64 x.err)).drew (w.heap.size + 1) 3 (.int .i64 x.start) ∧
            Boxed (((W.setCell ⟨w.heap.size, 0, none⟩ (.slice none 0 0)).setCell ⟨w.heap.size + 1, 0, none⟩ (.int .i64 x.start)).setCell ⟨w.heap.size + 1 + 1, 0, none⟩ (.int .i64 x.err)).drew (w.heap.size + 1 + 1) 27 (.int .i64 x.err) ∧
            Below w.heap.size w (((W.setCell ⟨w.heap.size, 0, none⟩ (.slice none 0 0)).setCell ⟨w.heap.size + 1, 0, none⟩ (.int .i64 x.start)).setCell ⟨w.heap.size + 1 + 1, 0, none⟩ (.int .i64 x.err)).drew := by
          have F0 := (((C0.set (.slice none 0 0)).other (B' := w.heap.size + 1) (by omega) (.int .i64 x.start)).other (B' := w.heap.size + 1 + 1) (by omega) (.int .i64 x.err))
          have F1 := (((C1.other (B' := w.heap.size) (by omega) (.slice none 0 0)).set (.int .i64 x.start)).other (B' := w.heap.size + 1 + 1) (by omega) (.int .i64 x.err))
          have F2 := (((C2.other (B' := w.heap.size) (by omega) (.slice none 0 0)).other (B' := w.heap.size + 1) (by omega) (.int .i64 x.start)).set (.int .i64 x.err))
          exact ⟨((((KeepsOthers.setCell _ _ _).trans (KeepsOthers.setCell _ _ _)).trans (KeepsOthers.setCell _ _ _)).trans (KeepsOthers.drew _)).from _, F0, F1, F2,
            (((hB.setCell (p := ⟨w.heap.size, 0, none⟩) (Nat.le_refl _) _).setCell (p := ⟨w.heap.size + 1, 0, none⟩) (by simp) _).setCell (p := ⟨w.heap.size + 1 + 1, 0, none⟩) (by simp; omega) _).drew⟩
        have HV := Lib.hid hV; clear hV
        gi_wp2_with fail
        gi_region_o
        all_goals gi_wp2
        all_goals exact ⟨HV.out.1, ⟨rfl, pre, x, rfl, he, hG.2, HV.out.2.1, HV.out.2.2.1, HV.out.2.2.2.1⟩, HV.out.2.2.2.2⟩
    case done =>
      rintro D xs W hD rfl ⟨⟨⟨⟨⟨v, hv, hrow, hG⟩, C0⟩, C1⟩, C2⟩, hB, hW⟩ hK
      have hfind := find_ok hG.2
      have c0 := C0.cell
      have c1 := C1.cell
      have c2 := C2.cell
      have c3 := hv.cell
      have f0 := C0.frozen
      have f1 := C1.frozen
      have f2 := C2.frozen
      by_cases hmany : 20000 < (toks s).length
      · have hlen : decide ((20000 : Int) < ((toks s).length : Int)) = true := decide_eq_true (by omega)
        obtain ⟨x, hx⟩ : ∃ x, (toks s)[20000]? = some x := ⟨_, List.getElem?_eq_getElem hmany⟩
        rcases hrow.2 with ⟨rfl, hn0⟩ | ⟨g, cap, cur, rfl, hg, hcur, hx2⟩
        · omega
        · have hgc : W.cell? ⟨g, 60002, none⟩ = some (.int .i64 x.start) := hrow.cells (g := g) rfl 60002 _ (rowL_start _ _ _ hx)
          clear hcur hx2
          have hfo : Tryd.prog.follows Departure.mixedOrders = true := by kernel_rfl
          have hl2 : decide ((20000 : Int) < 0) = false := by decide
          have hg0 : g ≠ w.heap.size := by omega
          have hg0' : w.heap.size ≠ g := by omega
          have hg1 : g ≠ w.heap.size + 1 := by omega
          have hg1' : w.heap.size + 1 ≠ g := by omega
          have hg2 : g ≠ w.heap.size + 1 + 1 := by omega
          have hg2' : w.heap.size + 1 + 1 ≠ g := by omega
          have hgc1 : (W.setCell ⟨w.heap.size, 0, none⟩ (.slice none 0 0)).cell? ⟨g, 60002, none⟩ = some (.int .i64 x.start) := (World.cell?_setCell_far _ _ _ _ hg0').trans hgc
          obtain ⟨F0, F1, F2, hko, hbe, _⟩ := set3_facts C0 C1 C2 (.slice none 0 0) (.int .i64 x.start) (.int .i64 5)
          gi_wp2_with fail
          gi_region_o
          all_goals gi_wp2
          have hK' : (set3 W w.heap.size (.slice none 0 0) (.int .i64 x.start) (.int .i64 5)).drew.heap[D]? = some (.deferred (some [])) := hko.same D _ hK rfl
          have G0 : Boxed (set3 W w.heap.size (.slice none 0 0) (.int .i64 x.start) (.int .i64 5)).drew w.heap.size 26 (.slice none 0 0) := F0
          have G1 : Boxed (set3 W w.heap.size (.slice none 0 0) (.int .i64 x.start) (.int .i64 5)).drew (w.heap.size + 1) 3 (.int .i64 x.start) := F1
          have G2 : Boxed (set3 W w.heap.size (.slice none 0 0) (.int .i64 x.start) (.int .i64 5)).drew (w.heap.size + 1 + 1) 27 (.int .i64 5) := F2
          have d0 := cell_shut hK' G0
          have d1 := cell_shut hK' G1
          have d2 := cell_shut hK' G2
          have hbl := (hbe hB).drew.trans (belowK_b (w := w) (Nat.le_refl _) _ D _ (.deferred none) (by omega) hK' rfl rfl)
          change LeavesInM Fence.wide n Tryd.prog Tryd.f10 _ _ _ _ (set3 W w.heap.size (.slice none 0 0) (.int .i64 x.start) (.int .i64 5)).drew
          refine ⟨by simp, .inl ⟨_, _, rfl, run_takeDeferred hK', ?_⟩⟩
          refine ⟨.tuple #[.slice none 0 0, .int .i64 x.start, .int .i64 5], by simp [results, Tryd.results10, go_sem, d0, d1, d2], _, _, _, rfl, ?_, hbl⟩
          unfold TokOut
          rw [if_neg hs, hfind]
          simp only
          rw [if_pos hmany]
          exact ⟨trivial, ⟨x, hx, rfl⟩, trivial⟩
      · have hlen : decide ((20000 : Int) < ((toks s).length : Int)) = false := decide_eq_false (by omega)
        rcases hrow.2 with ⟨rfl, hn0⟩ | ⟨g, cap, cur, rfl, hg, hcur, hx⟩
        · gi_wp2_with fail
          obtain ⟨F0, F1, F2, hko, hbe, hro⟩ := set3_facts C0 C1 C2 (.slice none 0 0) (.int .i64 0) (.int .i64 0)
          have hK' := hko.same D _ hK rfl
          have d0 := cell_shut hK' F0
          have d1 := cell_shut hK' F1
          have d2 := cell_shut hK' F2
          have hrw := ownsRow_mono (by omega) (ownsRow_putObj (hro hrow) (.deferred none) hK' rfl) (base' := w.heap.size)
          have hbl := (hbe hB).trans (belowK_b (w := w) (Nat.le_refl _) _ D _ (.deferred none) (by omega) hK' rfl rfl)
          change LeavesInM Fence.wide n Tryd.prog Tryd.f10 _ _ _ _ (set3 W w.heap.size (.slice none 0 0) (.int .i64 0) (.int .i64 0))
          refine ⟨by simp, .inl ⟨_, _, rfl, run_takeDeferred hK', ?_⟩⟩
          refine ⟨.tuple #[.slice none 0 0, .int .i64 0, .int .i64 0], by simp [results, Tryd.results10, go_sem, d0, d1, d2], _, _, _, rfl, ?_, hbl⟩
          unfold TokOut
          rw [if_neg hs, hfind]
          simp only
          rw [if_neg hmany]
          exact ⟨hrw, by simpa using hG.1, trivial, trivial⟩
        · gi_wp2_with fail
          obtain ⟨F0, F1, F2, hko, hbe, hro⟩ := set3_facts C0 C1 C2 (.slice (some ⟨g, 0, none⟩) (toks s).length cap) (.int .i64 0) (.int .i64 0)
          have hK' := hko.same D _ hK rfl
          have d0 := cell_shut hK' F0
          have d1 := cell_shut hK' F1
          have d2 := cell_shut hK' F2
          have hrw := ownsRow_mono (by omega) (ownsRow_putObj (hro hrow) (.deferred none) hK' rfl) (base' := w.heap.size)
          have hbl := (hbe hB).trans (belowK_b (w := w) (Nat.le_refl _) _ D _ (.deferred none) (by omega) hK' rfl rfl)
          change LeavesInM Fence.wide n Tryd.prog Tryd.f10 _ _ _ _ (set3 W w.heap.size (.slice (some ⟨g, 0, none⟩) (toks s).length cap) (.int .i64 0) (.int .i64 0))
          refine ⟨by simp, .inl ⟨_, _, rfl, run_takeDeferred hK', ?_⟩⟩
          refine ⟨.tuple #[.slice (some ⟨g, 0, none⟩) (toks s).length cap, .int .i64 0, .int .i64 0], by simp [results, Tryd.results10, go_sem, d0, d1, d2], _, _, _, rfl, ?_, hbl⟩
          unfold TokOut
          rw [if_neg hs, hfind]
          simp only
          rw [if_neg hmany]
          exact ⟨hrw, by simpa using hG.1, trivial, trivial⟩
    case stop =>
      rintro D c pre W hD hpre ⟨⟨rfl, pre', x, rfl, he, hok, C0, C1, C2⟩, hB⟩ hK
      have hfind := find_bad hpre he hok
      gi_wp2
      have hP : ∀ {b : Nat} {t : TypeId} {v : Value}, Boxed W b t v → (W.putObj D (.deferred none)).cell? ⟨b, 0, none⟩ = some v := fun h =>
        (Boxed.kept' (n := 0) h (grownBy_putObj' W D (.deferred none)) (fun r e => by cases e; exact ⟨Nat.zero_le _, _, hK, rfl⟩)).cell
      have c0 := hP C0
      have c1 := hP C1
      have c2 := hP C2
      refine ⟨by simp, .inl ⟨_, _, rfl, run_takeDeferred hK, ?_⟩⟩
      refine ⟨.tuple #[.slice none 0 0, .int .i64 x.start, .int .i64 x.err], by simp [results, Tryd.results10, go_sem, c0, c1, c2], _, _, _, rfl, ?_, hB.trans (belowK_b (w := w) (Nat.le_refl _) W D _ _ (by omega) hK rfl rfl)⟩
      unfold TokOut
      rw [if_neg hs, hfind]
      exact ⟨rfl, rfl, rfl⟩

theorem tokens_any (s : ByteArray) (m : Int) (w : World) (ht : Tab w) (hm : w.cell? ⟨2, 0, none⟩ = some (.int .i64 m)) :
    Calls Tryd.prog 10 #[.string s] w fun e w' => ∃ v off err, e = .returned (.tuple #[v, .int .i64 off, .int .i64 err]) ∧ TokOut s w.heap.size w' v off err ∧ Below w.heap.size w w' :=
  callsIn_wide.1 (tokens_in 6 (by omega) s m w ht hm)
end Go.Proofs.YtokdoklkaojheaaDoor

import Derived.RangeFuncNested
import Derived.RangeFuncBound
import Derived.RangeFuncCalls
import Derived.RangeFuncLeaves
import Derived.Shelf.Abstract
import Derived.Shelf.RegionOpen
import Derived.WalkKit
import Derived.OwnWalkIn
import Derived.TacticsInMore
import Derived.LoopNIn
import Derived.LoopIn
import Derived.WalkMore
import Derived.Test.YtokdoklkaojheaaDoorWv
namespace Go.Proofs.YtokdoklkaojheaaDoor
open Go.RowKit Go.Shelf
attribute [local go_sem] Oper.semAt_some

theorem wpIn_scope {n : Nat} {P : Program} {c : Code} {Q : Exit → Act → World → Prop} {a : Act} {w : World} (h : c.wpIn Fence.wide n P (Exit.noGoto Q) a w) : (Code.scope c).wpIn Fence.wide n P Q a w :=
  wpIn_wide.2 (wp_scope_straight ((wpIn_wide (n := n)).1 h))

structure Kept (K : List Nat) (W W' : World) : Prop where
  size : W.heap.size ≤ W'.heap.size
  block : ∀ b ∈ K, W'.heap[b]? = W.heap[b]?
  table : ∀ (b : Nat) (c : Array Value) (f : Nat × Nat), W.heap[b]? = some (.cells c 126 f) → W'.heap[b]? = some (.cells c 126 f)
theorem Kept.refl (K : List Nat) (W : World) : Kept K W W := ⟨Nat.le_refl _, fun _ _ => rfl, fun _ _ _ h => h⟩
theorem Kept.trans {K : List Nat} {A B C : World} (h : Kept K A B) (k : Kept K B C) : Kept K A C :=
  ⟨Nat.le_trans h.size k.size, fun b hb => (k.block b hb).trans (h.block b hb), fun b c f hb => k.table b c f (h.table b c f hb)⟩
theorem Kept.of_below {K : List Nat} {A B : World} (h : Below A.heap.size A B) (hK : ∀ b ∈ K, b < A.heap.size) : Kept K A B :=
  ⟨h.size, fun b hb => h.block b (hK b hb), fun b c f hb => (h.block b (Array.getElem?_eq_some_iff.1 hb).1).trans hb⟩

/-- what the iterator reads -/
structure Held (s : ByteArray) (kb sb bs bk : Nat) (m : Int) (W : World) : Prop where
  max : W.cell? ⟨2, 0, none⟩ = some (.int .i64 m)
  scan : IsScanner W kb sb
  text : W.cell? ⟨bs, 0, none⟩ = some (.string s)
  k0 : W.cell? ⟨bk, 0, none⟩ = some (.map (some kb))
  k1 : W.cell? ⟨bk, 1, none⟩ = some (.map (some sb))

theorem Held.of {s : ByteArray} {kb sb bs bk : Nat} {m : Int} {A B : World} (h : Held s kb sb bs bk m A) (hb : ∀ b ∈ [2, kb, sb, bs, bk], B.heap[b]? = A.heap[b]?) : Held s kb sb bs bk m B :=
  ⟨(World.cell?_of_block (hb 2 (by simp))).trans h.max, ⟨(hb kb (by simp)).trans h.scan.1, (hb sb (by simp)).trans h.scan.2⟩, (World.cell?_of_block (hb bs (by simp))).trans h.text,
    (World.cell?_of_block (hb bk (by simp))).trans h.k0, (World.cell?_of_block (hb bk (by simp))).trans h.k1⟩
theorem Held.lt {s : ByteArray} {kb sb bs bk : Nat} {m : Int} {A : World} (h : Held s kb sb bs bk m A) : ∀ b ∈ [2, kb, sb, bs, bk], b < A.heap.size := by
  intro b hb
  simp only [List.mem_cons, List.not_mem_nil, or_false] at hb
  rcases hb with rfl | rfl | rfl | rfl | rfl
  · exact World.block_lt_of_cell? _ _ h.max
  · exact h.scan.lt.1
  · exact h.scan.lt.2
  · exact World.block_lt_of_cell? _ _ h.text
  · exact World.block_lt_of_cell? _ _ h.k0
theorem Held.below {s : ByteArray} {kb sb bs bk : Nat} {m : Int} {A B : World} (h : Held s kb sb bs bk m A) (hb : Below A.heap.size A B) : Held s kb sb bs bk m B :=
  h.of fun b hm => hb.block b (h.lt b hm)
theorem tableV.of {A B : World} {v : Value} (h : tableV A v) (hb : ∀ (b : Nat) (c : Array Value) (f : Nat × Nat), A.heap[b]? = some (.cells c 126 f) → B.heap[b]? = some (.cells c 126 f)) : tableV B v := by
  obtain ⟨g, cap, rfl, ⟨cur, hg⟩, hc⟩ := h
  exact ⟨g, cap, rfl, ⟨cur, hb _ _ _ hg⟩, fun k hk => (World.cell?_of_block ((hb _ _ _ hg).trans hg.symm)).trans (hc k hk)⟩
theorem tableV.below {A B : World} {v : Value} (h : tableV A v) (hb : Below A.heap.size A B) : tableV B v :=
  h.of fun b _ _ hm => (hb.block b (Array.getElem?_eq_some_iff.1 hm).1).trans hm

theorem toksF_succ (s : ByteArray) (g at_ p : Nat) (e0 : Int) (h : skipL s.data.toList at_ = (p, e0)) :
    toksF s (g + 1) at_ = if e0 = 0 then (if p = s.size then [] else
      (⟨(readAt s p).1, (s.extract p s.size).extract 0 (readAt s p).2.1, p, p + (readAt s p).2.1, (readAt s p).2.2⟩ : Item) :: (if (readAt s p).2.2 = 0 then toksF s g (p + (readAt s p).2.1) else []))
      else [⟨0, ⟨#[]⟩, p, p, e0⟩] := by
  rw [toksF]
  unfold itemAt
  rw [h]
  simp only
  by_cases h1 : e0 = 0
  · rw [if_pos h1, if_pos h1]
    by_cases h2 : p = s.size
    · rw [if_pos h2, if_pos h2]
    · rw [if_neg h2, if_neg h2]
  · rw [if_neg h1, if_neg h1]
    simp only
    rw [if_neg h1]

set_option maxRecDepth 100000 in
set_option maxHeartbeats 2000000 in
theorem places1_in (n : Nat) (hn : 1 ≤ n) (s : ByteArray) (hs : s.size ≤ 65536) (kb sb bs bk : Nat) (m : Int) (l : Nat) (J Jx : List Item → World → Prop)
    (hJ : ∀ pre A B, J pre A → Below A.heap.size A B → J pre B)
    (hY : ∀ pre x W, J pre W → pre.length < (toks s).length → YieldAt Fence.wide (n - 1) Tryd.prog l (encI x) W fun e W' =>
      (e = .returned (.bool true) ∧ J (pre ++ [x]) W' ∧ Kept [2, kb, sb, bs, bk] W W') ∨ (e = .returned (.bool false) ∧ Jx (pre ++ [x]) W'))
    (W : World) (hH : Held s kb sb bs bk m W) (h0 : J [] W) :
    CallsIn Fence.wide n Tryd.prog 71 #[.func (.yield l) #[] #[], .pointer (some ⟨bs, 0, none⟩), .pointer (some ⟨bk, 0, none⟩)] W fun e W' => (∃ v, e = .returned v) ∧
      ((∃ xs, xs = toks s ∧ J xs W') ∨ (∃ pre, pre <+: toks s ∧ Jx pre W')) := by
  refine callsIn_of_wp Tryd.func71 rfl trivial ?_ rfl
  simp only [Tryd.ntmps71, List.size_toArray, List.length_cons, List.length_nil, Nat.reduceAdd, Nat.reduceSub, Array.replicate_succ, Array.replicate_zero, List.push_toArray, List.append_toArray, List.nil_append, List.cons_append]
  refine wpIn_scope ?_
  gi_wp2_with fail
  refine ⟨trivial, (callsIn_wide.2 (rules_table _)).mono ?_⟩; rintro e w1 ⟨tv, rfl, ht, hb⟩
  gi_wp2
  refine wpIn_label ?_
  gi_wp2
  gi_loopw [5] (fun p wr => ∃ (pre : List Item) (g at_ : Nat), p = .int .i64 at_ ∧ at_ ≤ s.size ∧ toks s = pre ++ toksF s g at_ ∧ s.size < at_ + g ∧ Held s kb sb bs bk m wr ∧ tableV wr tv ∧ J pre wr)
    (fun p wr => s.size - (intOf p).toNat)
  case atStart =>
    exact ⟨[], s.size + 1, 0, rfl, by omega, rfl, by omega, hH.below hb, ht, hJ _ _ _ h0 hb⟩
  case round =>
    obtain ⟨pre, g, at_, rfl, hat, hpre, hfu, hheld, htab, hJs⟩ := hrel
    obtain ⟨g, rfl⟩ : ∃ g', g = g' + 1 := ⟨g - 1, by omega⟩
    have hlt := hheld.lt
    have htext := hheld.text
    have hsk := skipL_le s at_ hat
    have cs := fun w h => skip_any s at_ m w hs hat h
    obtain ⟨⟨p, e0⟩, hp⟩ : ∃ pe, skipL s.data.toList at_ = pe := ⟨_, rfl⟩
    rw [toksF_succ s g at_ p e0 hp] at hpre
    rw [hp] at hsk cs
    simp only at hsk cs
    have Cs := Lib.hid cs
    clear hp cs
    have Hpre := Lib.hid hpre; clear hpre
    gi_wp2_with fail
    refine ⟨trivial, (callsIn_wide.2 (Cs.out _ hheld.max)).mono ?_⟩; rintro e w2 ⟨rfl, hb2⟩
    have hheld2 := hheld.below hb2
    have htab2 := htab.below hb2
    have hlt2 := hheld2.lt
    have htext2 := hheld2.text
    by_cases he0 : e0 = 0
    · subst he0
      have hpre2 := Hpre.out
      rw [if_pos rfl] at hpre2
      clear Hpre
      by_cases hps : p = s.size
      · rw [if_pos hps] at hpre2
        have d1 : ((p : Int) == (s.size : Int)) = true := by rw [hps]; simp
        have Hpre := Lib.hid hpre2; clear hpre2
        gi_wp2
        rw [Exit.noGoto_normal]
        go_end0
        exact ⟨⟨_, rfl⟩, .inl ⟨pre, by rw [Hpre.out, List.append_nil], hJ _ _ _ hJs (hb2.alloc hb2.size _)⟩⟩
      · rw [if_neg hps] at hpre2
        have d1 : ((p : Int) == (s.size : Int)) = false := by simp; omega
        have Hpre := Lib.hid hpre2; clear hpre2
        have hrd := readAt_le s p hsk.2
        have hpos : (readAt s p).2.2 = 0 → 0 < (readAt s p).2.1 := readL_pos _
        have cr : ∀ w, IsScanner w kb sb → tableV w tv → Calls Tryd.prog 47 #[.agg #[.map (some kb), .map (some sb)], .string (s.extract p s.size), tv] w fun e w' => e = .returned (rdV (s.extract p s.size) (readAt s p)) ∧ Below w.heap.size w w' := by
          intro w h1 h2
          have := readTable_any (s.extract p s.size) kb sb tv w (by simp; omega) h1 h2
          rw [Lib.extract_to_end] at this
          exact this
        have Hpre := Lib.hid Hpre.out
        obtain ⟨⟨rk, re, rr⟩, hr⟩ : ∃ r, readAt s p = r := ⟨_, rfl⟩
        have hpre3 := Hpre.out
        rw [hr] at hrd hpos cr hpre3
        simp only [rdV, plV] at hrd hpos cr hpre3
        clear hr Hpre
        have Hpre := Lib.hid hpre3; clear hpre3
        have Cr := Lib.hid cr; clear cr
        have hb3 := hb2.alloc hb2.size (.cells #[.int .i64 0, .string ⟨#[]⟩, .int .i64 0, .int .i64 0] 73)
        have hbb : Below w2.heap.size w2 (w2.alloc (.cells #[.int .i64 0, .string ⟨#[]⟩, .int .i64 0, .int .i64 0] 73)) := (Below.refl _ _).alloc (Nat.le_refl _) _
        have hheld3 := hheld2.below hbb
        have htab3 := htab2.below hbb
        have ht3 := hheld3.text
        have hk0 := hheld3.k0
        have hk1 := hheld3.k1
        have hp0 : (w2.alloc (.cells #[.int .i64 0, .string ⟨#[]⟩, .int .i64 0, .int .i64 0] 73)).cell? ⟨w2.heap.size, 0, none⟩ = some (.int .i64 0) := by simp
        have hp1 : (w2.alloc (.cells #[.int .i64 0, .string ⟨#[]⟩, .int .i64 0, .int .i64 0] 73)).cell? ⟨w2.heap.size, 1, none⟩ = some (.string ⟨#[]⟩) := by simp
        have hp2 : (w2.alloc (.cells #[.int .i64 0, .string ⟨#[]⟩, .int .i64 0, .int .i64 0] 73)).cell? ⟨w2.heap.size, 2, none⟩ = some (.int .i64 0) := by simp
        have hp3 : (w2.alloc (.cells #[.int .i64 0, .string ⟨#[]⟩, .int .i64 0, .int .i64 0] 73)).cell? ⟨w2.heap.size, 3, none⟩ = some (.int .i64 0) := by simp
        have hpf : ∀ o, (w2.alloc (.cells #[.int .i64 0, .string ⟨#[]⟩, .int .i64 0, .int .i64 0] 73)).frozen? ⟨w2.heap.size, o, none⟩ = false := by intro o; simp
        have hn1 : bs ≠ w2.heap.size := Nat.ne_of_lt (hlt2 bs (by simp))
        have hn2 : bk ≠ w2.heap.size := Nat.ne_of_lt (hlt2 bk (by simp))
        have hn1' := hn1.symm
        have hn2' := hn2.symm
        have hpz : w2.heap.size < (w2.alloc (.cells #[.int .i64 0, .string ⟨#[]⟩, .int .i64 0, .int .i64 0] 73)).heap.size := by simp
        gi_wp2_with fail
        refine wpIn_wide.2 ?_
        go_region_held3 (fun w' => w'.cell? ⟨bs, 0, none⟩ = some (.string s) ∧ w'.cell? ⟨bk, 0, none⟩ = some (.map (some kb)) ∧ w'.cell? ⟨bk, 1, none⟩ = some (.map (some sb))) (first | exact ⟨hq0, hq1, hq2⟩ | exact ⟨ht3, hk0, hk1⟩ | go_keep)
          (first | (go_at_call 47; refine (Cr.out _ (by exact hheld3.scan) (by exact htab3)).mono ?_; rintro e w4 ⟨rfl, hb4⟩; have hq0 := cell_later hb4 ht3; have hq1 := cell_later hb4 hk0; have hq2 := cell_later hb4 hk1; have c0 := cell_later hb4 hp0; have c1 := cell_later hb4 hp1; have c2 := cell_later hb4 hp2; have c3 := cell_later hb4 hp3; have f0 := fun o => ((bcell hb4).2 w2.heap.size o hpz).trans (hpf o)))
        have hbig := hb3.trans ((below_undrew hb4).mono hb3.size)
        have hheld4 := hheld.below hbig
        have htab4 := htab.below hbig
        have hz4 : w2.heap.size < w4.heap.size := by have := hb4.size; simp at this; omega
        have hwb : wr.heap.size ≤ w2.heap.size := hb2.size
        have hq := below_pl hbig hwb (.int .i64 rk) (.string ((s.extract p s.size).extract 0 re)) (.int .i64 0) (.int .i64 re)
        obtain ⟨V, hV⟩ : ∃ V, ((((w4.setCell ⟨w2.heap.size, 0, none⟩ (.int .i64 rk)).setCell ⟨w2.heap.size, 1, none⟩ (.string ((s.extract p s.size).extract 0 re))).setCell ⟨w2.heap.size, 2, none⟩ (.int .i64 0)).setCell ⟨w2.heap.size, 3, none⟩ (.int .i64 re)) = V := ⟨_, rfl⟩
        have v0 : V.cell? ⟨w2.heap.size, 0, none⟩ = some (.int .i64 rk) := by rw [← hV]; simp [go_sem, c0]
        have v1 : V.cell? ⟨w2.heap.size, 1, none⟩ = some (.string ((s.extract p s.size).extract 0 re)) := by rw [← hV]; simp [go_sem, c1]
        have v2 : V.cell? ⟨w2.heap.size, 2, none⟩ = some (.int .i64 0) := by rw [← hV]; simp [go_sem, c2]
        have v3 : V.cell? ⟨w2.heap.size, 3, none⟩ = some (.int .i64 re) := by rw [← hV]; simp [go_sem, c3]
        have vf : ∀ o, V.frozen? ⟨w2.heap.size, o, none⟩ = false := by intro o; rw [← hV]; simp [go_sem, f0]
        have vz : w2.heap.size < V.heap.size := by rw [← hV]; simpa using hz4
        simp only [Exit.inBlock, Exit.then]
        rw [hV] at hq ⊢
        clear hV hq0 hq1 hq2 hk0 hk1 hp0 hp1 hp2 hp3 hpf hpz ht3 hheld3 htab3 hbb hb3 hb4 hb2 htext htext2 hlt hlt2 hheld2 htab2 c0 c1 c2 c3 f0 hbig hz4
        rename_i hHeld
        clear hHeld
        clear Cr Cs
        have hb5 := (hq.setCell (p := ⟨w2.heap.size, 2, none⟩) hwb (.int .i64 p)).setCell (p := ⟨w2.heap.size, 3, none⟩) hwb (.int .i64 ((p : Int) + re))
        have hheld5 := hheld.below hb5
        have htab5 := htab.below hb5
        have hJ5 := hJ _ _ _ hJs hb5
        obtain ⟨fn, tmps, assign, body, hy, hR⟩ := hY pre ⟨rk, (s.extract p s.size).extract 0 re, p, p + re, rr⟩ _ hJ5 (by rw [Hpre.out]; simp)
        simp only [encI, Int.natCast_add] at hy
        clear hheld4 htab4 hq hb5 hJ5
        have Hheld5 := Lib.hid hheld5; clear hheld5
        have Htab5 := Lib.hid htab5; clear htab5
        by_cases hrr : rr = 0
        · have d2 : (rr != 0) = false := by simpa using hrr
          have hre := hpos hrr
          have hpre3 := Hpre.out
          rw [if_pos hrr] at hpre3
          have Hpre3 := Lib.hid hpre3; clear hpre3 hrr hpos
          gi_wp2
          refine hR.mono ?_
          rintro e W3 (⟨rfl, hJ3, hk3⟩ | ⟨rfl, hJx3⟩)
          · gi_wp2
            go_roundw
            case rel => exact ⟨pre ++ [⟨rk, (s.extract p s.size).extract 0 re, p, p + re, rr⟩], g, p + re, by simp, hrd, by rw [Hpre3.out]; simp, by omega, Hheld5.out.of hk3.block, Htab5.out.of hk3.table, hJ3⟩
            case measure => simp [intOf]; omega
          · gi_wp2
            rw [Exit.noGoto_normal]
            go_end0
            exact ⟨⟨_, rfl⟩, .inr ⟨_, ⟨_, by rw [Hpre3.out]; simp; rfl⟩, hJx3⟩⟩
        · have d2 : (rr != 0) = true := by simpa using hrr
          have hpre3 := Hpre.out
          rw [if_neg hrr] at hpre3
          have Hpre3 := Lib.hid hpre3; clear hpre3 hrr hpos
          gi_wp2
          refine hR.mono ?_
          rintro e W3 (⟨rfl, hJ3, hk3⟩ | ⟨rfl, hJx3⟩)
          · gi_wp2
            rw [Exit.noGoto_normal]
            go_end0
            exact ⟨⟨_, rfl⟩, .inl ⟨_, Hpre3.out.symm, hJ3⟩⟩
          · gi_wp2
            rw [Exit.noGoto_normal]
            go_end0
            exact ⟨⟨_, rfl⟩, .inr ⟨_, by rw [Hpre3.out]; exact List.prefix_rfl, hJx3⟩⟩
    · have d0 : (e0 == 0) = false := by simpa using he0
      have d0' : (e0 != 0) = true := by simpa using he0
      have hpre2 := Hpre.out
      rw [if_neg he0] at hpre2
      have Hpre := Lib.hid hpre2; clear hpre2
      obtain ⟨fn, tmps, assign, body, hy, hR⟩ := hY pre ⟨0, ⟨#[]⟩, p, p, e0⟩ (w2.alloc (.cells #[.int .i64 0, .string ⟨#[]⟩, .int .i64 p, .int .i64 p] 73)) (hJ _ _ _ hJs (hb2.alloc hb2.size _)) (by rw [Hpre.out]; simp)
      dsimp [encI] at hy
      gi_wp2
      refine hR.mono ?_
      rintro e W3 (⟨rfl, hJ3, hk3⟩ | ⟨rfl, hJx3⟩)
      · gi_wp2
        rw [Exit.noGoto_normal]
        go_end0
        exact ⟨⟨_, rfl⟩, .inl ⟨_, Hpre.out.symm, hJ3⟩⟩
      · gi_wp2
        rw [Exit.noGoto_normal]
        go_end0
        exact ⟨⟨_, rfl⟩, .inr ⟨_, by rw [Hpre.out]; exact List.prefix_rfl, hJx3⟩⟩
end Go.Proofs.YtokdoklkaojheaaDoor

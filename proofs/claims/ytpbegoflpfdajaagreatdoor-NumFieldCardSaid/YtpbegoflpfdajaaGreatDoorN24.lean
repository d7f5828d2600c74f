/- WHAT IS PROVED: contracts of functions of the numbers package and laws for them, used by the last text of this claim. CONDITIONS: stated at each theorem. -/
import Derived.Test.YtpbegoflpfdajaaGreatDoorN23
namespace Go.Proofs.YtpbegoflpfdajaaGreatDoor
open Go.RowKit

theorem wld86 {op : Oper} {a : Act} {w : World} {K : Act → World → Prop} {Q : Exit → Act → World → Prop} (b o : Nat) (n : Nat) (ho : ∃ x, op.op = .load 86 x ∧ a.eval x = .pointer (some ⟨b, o, none⟩)) (hc : w.rangeAt b o (mgL n)) (h : K (a.put op.dst (.agg (mgL n).toArray)) w) : op.wp Tryz.prog a w K Q :=
  let ⟨x, h1, h2⟩ := ho; wp_load_mid 86 x h1 b o h2 (mgL n) _ hc Tryz.underlying86 rfl (by rw [mgL_len]; exact i86) h

/-! a number, read off its block -/
def limW (w : World) (b i : Nat) : Nat := match w.cell? ⟨b, i, none⟩ with | some (.int _ v) => v.toNat | _ => 0
def valW (w : World) (b : Nat) : Nat → Nat
  | 0 => 0
  | k + 1 => valW w b k + bb ^ k * limW w b k
theorem valW_mod {w : World} {b n : Nat} (h : w.rangeAt b 0 (mgL n)) : ∀ k, k ≤ 30 → valW w b k = n % bb ^ k
  | 0, _ => by simp [valW, Nat.mod_one]
  | k + 1, hk => by
    have hc := cell_of_range h (mgL_get (n := n) (i := k) (by omega))
    rw [valW, valW_mod h k (by omega), mod_pow_succ]
    unfold limW; rw [hc]; simp
theorem valW_eq {w : World} {b n : Nat} (h : w.rangeAt b 0 (mgL n)) (hn : n < bb ^ 30) : valW w b 30 = n := by rw [valW_mod h 30 (Nat.le_refl _), Nat.mod_eq_of_lt hn]

structure Gc (w : World) (p q : Nat) (W : World) : Prop where
  below : Below w.heap.size w W
  r0 : W.rangeAt w.heap.size 0 (mgL p)
  t0 : W.there w.heap.size 0 30
  r1 : W.rangeAt (w.heap.size + 1) 0 (mgL q)
  t1 : W.there (w.heap.size + 1) 0 30
  t2 : W.there (w.heap.size + 2) 0 30
theorem Gc.keep {w W W' : World} {p q : Nat} (g : Gc w p q W) (h : Below W.heap.size W W') : Gc w p q W' :=
  ⟨g.below.trans (h.mono g.below.size), range_keep g.r0 h, there_keep g.t0 h, range_keep g.r1 h, there_keep g.t1 h, there_keep g.t2 h⟩
theorem Gc.drew {w W : World} {p q : Nat} (g : Gc w p q W) : Gc w p q W.drew := ⟨g.below.drew, g.r0, g.t0, g.r1, g.t1, g.t2⟩
theorem wp_region_drew {Q : Exit → Act → World → Prop} {P : Program} {id : Nat} {ops : Array Oper} {a : Act} {w : World} (hm : P.follows .mixedOrders = true) (h : wpAny P .any ops Q ops.size (Array.replicate ops.size false) a w.drew) : (Code.region id ops true).wp P Q a w := wp_region_any hm h
def nw2 (w : World) (a b : Nat) : World := (((w.alloc (.cells (mgL 0).toArray 86)).alloc (.cells (mgL 0).toArray 86)).setCells w.heap.size 0 (mgL a)).setCells (w.heap.size + 1) 0 (mgL b)
theorem nw2_old (w : World) (a b : Nat) : Below w.heap.size w (nw2 w a b) := below_set (below_set (((Below.refl _ _).alloc (Nat.le_refl _) _).alloc (by simp) _) (Nat.le_refl _) _ _) (by omega) _ _
theorem nw2_at1 (w : World) (a b : Nat) : (nw2 w a b).rangeAt (w.heap.size + 1) 0 (mgL b) := range_set (World.there_setCells (gd_there1 w) _ _ _) (by rw [mgL_len])
theorem nw2_size (w : World) (a b : Nat) : (nw2 w a b).heap.size = w.heap.size + 2 := by unfold nw2; simp [size_setCells]

theorem Gc.step {w W : World} {p q r : Nat} (g : Gc w p q W) : Gc w q r ((W.setCells w.heap.size 0 (mgL q)).setCells (w.heap.size + 1) 0 (mgL r)) :=
  ⟨below_set (below_set g.below (Nat.le_refl _) _ _) (by omega) _ _, range_setk (range_set g.t0 (by rw [mgL_len])) (by omega), World.there_setCells (World.there_setCells g.t0 _ _ _) _ _ _,
   range_set (World.there_setCells g.t1 _ _ _) (by rw [mgL_len]), World.there_setCells (World.there_setCells g.t1 _ _ _) _ _ _, World.there_setCells (World.there_setCells g.t2 _ _ _) _ _ _⟩

set_option maxHeartbeats 4000000 in
set_option maxRecDepth 20000 in
/-- gcd -/
theorem gcd_any (m o : Nat) (hm : m < bb ^ 29) (ho : o < bb ^ 29) (w : World) :
    Calls Tryz.prog 96 #[.agg (mgL m).toArray, .agg (mgL o).toArray] w fun e w' => e = .returned (.agg (mgL (Nat.gcd m o)).toArray) ∧ Below w.heap.size w w' := by
  have Hm := Lib.hid hm; have Ho := Lib.hid ho
  have G0 := Lib.hid (show Gc w m o (((w.alloc (.cells (mgL m).toArray 86)).alloc (.cells (mgL o).toArray 86)).alloc (.cells (mgL 0).toArray 86)) from ⟨(((Below.refl w.heap.size w).alloc (Nat.le_refl _) _).alloc (by simp) _).alloc (by simp; omega) _, World.rangeAt_alloc (World.rangeAt_alloc (range_new w _ 86) _) _, World.there_alloc (World.there_alloc (there_at rfl _ 86 (by rw [mgL_len])) _) _,
    World.rangeAt_alloc (range_at (by simp) _ 86) _, World.there_alloc (there_at (by simp) _ 86 (by rw [mgL_len])) _, there_at (by simp) _ 86 (by rw [mgL_len])⟩)
  have hs3 : (((w.alloc (.cells (mgL m).toArray 86)).alloc (.cells (mgL o).toArray 86)).alloc (.cells (mgL 0).toArray 86)).heap.size = w.heap.size + 3 := by simp
  have Hs3 := Lib.hid (show w.heap.size + 3 ≤ (((w.alloc (.cells (mgL m).toArray 86)).alloc (.cells (mgL o).toArray 86)).alloc (.cells (mgL 0).toArray 86)).heap.size by omega)
  clear hm ho hs3
  go_enter Tryz.func96, Tryz.ntmps96
  go_wp2_with (first
    | ((with_reducible refine al_zb 86 _ (w.heap.size + 2) ?_ ?_ z86 ?_); (· exact ⟨rfl, rfl⟩); · (simp; done)))
  try simp only [Act.put, List.setIfInBounds_toArray, List.set_cons_zero, List.set_cons_succ]
  go_loopw [9] (fun _ wr => ∃ p q : Nat, p < bb ^ 29 ∧ q < bb ^ 29 ∧ Nat.gcd p q = Nat.gcd m o ∧ Gc w p q wr ∧ w.heap.size + 3 ≤ wr.heap.size) (fun _ wr => valW wr (w.heap.size + 1) 30)
  case atStart => exact ⟨m, o, Hm.out, Ho.out, rfl, G0.out, Hs3.out⟩
  case round =>
    obtain ⟨p, q, hp, hq, hg, G, hsz⟩ := hrel
    have hq30 : q < bb ^ 30 := Nat.lt_of_lt_of_le hq (pow_mono (by omega))
    have Hval := Lib.hid (valW_eq G.r1 hq30)
    have cs := fun w => size_any q hq30 w
    by_cases hbig : 2 < lsz q
    · have t1 : decide ((lsz q : Int) > 2) = true := by simp; omega
      have hq0 : 0 < q := Nat.pos_of_ne_zero (fun h => by subst h; rw [lsz_zero] at hbig; omega)
      obtain ⟨s, hs⟩ : ∃ s, lsz q = s := ⟨_, rfl⟩
      rw [hs] at t1 cs
      have Cs := Lib.hid cs
      have Cd := Lib.hid (fun w => divide_all p q hp hq30 hq0 w)
      have Hlt := Lib.hid (Nat.mod_lt p hq0)
      have Hgr := Lib.hid (show Nat.gcd q (p % q) = Nat.gcd m o by rw [← hg, Nat.gcd_comm p, Nat.gcd_rec q p, Nat.gcd_comm])
      have HG := Lib.hid G; have Hq := Lib.hid hq
      clear cs hbig hq0 hs G hp hq hg hq30
      go_wp2_with (first
        | ((with_reducible refine ld86 (w.heap.size + 1) 0 q ?_ ?_ ?_); (· exact ⟨rfl, _, rfl, rfl⟩); · first | exact HG.out.r1 | exact range_keep HG.out.r1 HB1.out)
        | ((with_reducible refine ld86 w.heap.size 0 p ?_ ?_ ?_); (· exact ⟨rfl, _, rfl, rfl⟩); · exact range_keep HG.out.r0 HB1.out)
        | (go_at_call 159; (with_reducible refine (Cs.out _).mono ?_); rintro e w1 ⟨rfl, hb1⟩; have HB1 := Lib.hid hb1; clear hb1)
        | (go_at_call 154; (with_reducible refine (Cd.out _).mono ?_); rintro e w3 ⟨rfl, hb3⟩; have HB3 := Lib.hid (HB1.out.trans (hb3.mono HB1.out.size)); clear hb3)
        | ((with_reducible refine al_zb 86 _ w3.heap.size ?_ ?_ z86 ?_); (· exact ⟨rfl, rfl⟩); · rfl)
        | ((with_reducible refine al_zb 86 _ (w3.heap.size + 1) ?_ ?_ z86 ?_); (· exact ⟨rfl, rfl⟩); · (simp; done))
        | ((with_reducible refine st86 w3.heap.size 0 (p / q) ?_ ?_ ?_); (· exact ⟨rfl, _, _, rfl, rfl, rfl⟩); · exact gd_there0 w3)
        | ((with_reducible refine st86 (w3.heap.size + 1) 0 (p % q) ?_ ?_ ?_); (· exact ⟨rfl, _, _, rfl, rfl, rfl⟩); · exact World.there_setCells (gd_there1 w3) _ _ _))

      try simp only [Act.put, List.setIfInBounds_toArray, List.set_cons_zero, List.set_cons_succ]
      have hz3 := HB3.out.size
      have G2 := (HG.out.keep (HB3.out.trans ((nw2_old w3 (p / q) (p % q)).mono hz3))).drew
      have R6 : (nw2 w3 (p / q) (p % q)).drew.rangeAt (w3.heap.size + 1) 0 (mgL (p % q)) := nw2_at1 w3 (p / q) (p % q)
      have hne : w3.heap.size + 1 ≠ w.heap.size := by omega
      have FIN := G2.step (r := p % q)
      have FV := valW_eq FIN.r1 (Nat.lt_trans Hlt.out (Nat.lt_of_lt_of_le Hq.out (pow_mono (by omega))))
      have FS : w.heap.size + 3 ≤ (((nw2 w3 (p / q) (p % q)).drew.setCells w.heap.size 0 (mgL q)).setCells (w.heap.size + 1) 0 (mgL (p % q))).heap.size := by rw [size_setCells, size_setCells]; have h9 : (nw2 w3 (p / q) (p % q)).drew.heap.size = w3.heap.size + 2 := nw2_size w3 (p / q) (p % q); omega
      have G2 := Lib.hid G2; have R6 := Lib.hid R6; have FIN := Lib.hid FIN; have FV := Lib.hid FV; have FS := Lib.hid FS
      clear hz3
      refine wp_region_drew (by kernel_rfl) ?_
      refine wpAny_ready (rs := [0, 1]) (by kernel_rfl) (by simp) ?_
      refine AllReady.cons rfl (fun K hK => ?_) ?_
      · simp only [List.getElem_toArray, List.getElem_cons_zero]
        rw [if_pos (by rfl)]
        refine wld86 (w.heap.size + 1) 0 q ⟨_, rfl, rfl⟩ G2.out.r1 ?_
        refine hK _ _ ?_; clear hK K
        try simp only [Act.put, List.setIfInBounds_toArray, List.set_cons_zero, List.set_cons_succ]
        refine wpAny_ready (rs := [1, 2]) (by kernel_rfl) (by simp) ?_
        refine AllReady.cons rfl (fun K hK => ?_) ?_
        · simp only [List.getElem_toArray, List.getElem_cons_succ, List.getElem_cons_zero]
          rw [if_pos (by rfl)]
          refine wld86 (w3.heap.size + 1) 0 (p % q) ⟨_, rfl, rfl⟩ R6.out ?_
          refine hK _ _ ?_; clear hK K
          try simp only [Act.put, List.setIfInBounds_toArray, List.set_cons_zero, List.set_cons_succ]
          refine wpAny_ready (rs := [2]) (by kernel_rfl) (by simp) ?_
          refine AllReady.cons rfl (fun K hK => ?_) AllReady.nil
          simp only [List.getElem_toArray, List.getElem_cons_succ, List.getElem_cons_zero]
          rw [if_pos (by rfl)]
          refine wst86 w.heap.size 0 q ⟨_, _, rfl, rfl, rfl⟩ G2.out.t0 ?_
          refine hK _ _ ?_; clear hK K
          try simp only [Act.put]
          refine wpAny_ready (rs := [3]) (by kernel_rfl) (by simp) ?_
          refine AllReady.cons rfl (fun K hK => ?_) AllReady.nil
          simp only [List.getElem_toArray, List.getElem_cons_succ, List.getElem_cons_zero]
          rw [if_pos (by rfl)]
          refine wst86 (w.heap.size + 1) 0 (p % q) ⟨_, _, rfl, rfl, rfl⟩ (World.there_setCells G2.out.t1 _ _ _) ?_
          refine hK _ _ ?_; clear hK K
          try simp only [Act.put]
          refine wpAny_done (by kernel_rfl) ?_ _
          go_roundw
          case rel => exact ⟨_, _, _, _, _, _, _, _, _, _, _, _, _, ⟨q, p % q, Hq.out, Nat.lt_trans Hlt.out Hq.out, Hgr.out, FIN.out, FS.out⟩, rfl⟩
          case measure => rw [Hval.out]; exact Nat.lt_of_le_of_lt (Nat.le_of_eq FV.out) Hlt.out
        refine AllReady.cons rfl (fun K hK => ?_) AllReady.nil
        simp only [List.getElem_toArray, List.getElem_cons_succ, List.getElem_cons_zero]
        rw [if_pos (by rfl)]
        refine wst86 w.heap.size 0 q ⟨_, _, rfl, rfl, rfl⟩ G2.out.t0 ?_
        refine hK _ _ ?_; clear hK K
        try simp only [Act.put]
        refine wpAny_ready (rs := [1]) (by kernel_rfl) (by simp) ?_
        refine AllReady.cons rfl (fun K hK => ?_) AllReady.nil
        simp only [List.getElem_toArray, List.getElem_cons_succ, List.getElem_cons_zero]
        rw [if_pos (by rfl)]
        refine wld86 (w3.heap.size + 1) 0 (p % q) ⟨_, rfl, rfl⟩ (range_setk R6.out hne) ?_
        refine hK _ _ ?_; clear hK K
        try simp only [Act.put, List.setIfInBounds_toArray, List.set_cons_zero, List.set_cons_succ]
        refine wpAny_ready (rs := [3]) (by kernel_rfl) (by simp) ?_
        refine AllReady.cons rfl (fun K hK => ?_) AllReady.nil
        simp only [List.getElem_toArray, List.getElem_cons_succ, List.getElem_cons_zero]
        rw [if_pos (by rfl)]
        refine wst86 (w.heap.size + 1) 0 (p % q) ⟨_, _, rfl, rfl, rfl⟩ (World.there_setCells G2.out.t1 _ _ _) ?_
        refine hK _ _ ?_; clear hK K
        try simp only [Act.put]
        refine wpAny_done (by kernel_rfl) ?_ _
        go_roundw
        case rel => exact ⟨_, _, _, _, _, _, _, _, _, _, _, _, _, ⟨q, p % q, Hq.out, Nat.lt_trans Hlt.out Hq.out, Hgr.out, FIN.out, FS.out⟩, rfl⟩
        case measure => rw [Hval.out]; exact Nat.lt_of_le_of_lt (Nat.le_of_eq FV.out) Hlt.out
      refine AllReady.cons rfl (fun K hK => ?_) AllReady.nil
      simp only [List.getElem_toArray, List.getElem_cons_succ, List.getElem_cons_zero]
      rw [if_pos (by rfl)]
      refine wld86 (w3.heap.size + 1) 0 (p % q) ⟨_, rfl, rfl⟩ R6.out ?_
      refine hK _ _ ?_; clear hK K
      try simp only [Act.put, List.setIfInBounds_toArray, List.set_cons_zero, List.set_cons_succ]
      refine wpAny_ready (rs := [0]) (by kernel_rfl) (by simp) ?_
      refine AllReady.cons rfl (fun K hK => ?_) AllReady.nil
      simp only [List.getElem_toArray, List.getElem_cons_zero]
      rw [if_pos (by rfl)]
      refine wld86 (w.heap.size + 1) 0 q ⟨_, rfl, rfl⟩ G2.out.r1 ?_
      refine hK _ _ ?_; clear hK K
      try simp only [Act.put, List.setIfInBounds_toArray, List.set_cons_zero, List.set_cons_succ]
      refine wpAny_ready (rs := [2]) (by kernel_rfl) (by simp) ?_
      refine AllReady.cons rfl (fun K hK => ?_) AllReady.nil
      simp only [List.getElem_toArray, List.getElem_cons_succ, List.getElem_cons_zero]
      rw [if_pos (by rfl)]
      refine wst86 w.heap.size 0 q ⟨_, _, rfl, rfl, rfl⟩ G2.out.t0 ?_
      refine hK _ _ ?_; clear hK K
      try simp only [Act.put]
      refine wpAny_ready (rs := [3]) (by kernel_rfl) (by simp) ?_
      refine AllReady.cons rfl (fun K hK => ?_) AllReady.nil
      simp only [List.getElem_toArray, List.getElem_cons_succ, List.getElem_cons_zero]
      rw [if_pos (by rfl)]
      refine wst86 (w.heap.size + 1) 0 (p % q) ⟨_, _, rfl, rfl, rfl⟩ (World.there_setCells G2.out.t1 _ _ _) ?_
      refine hK _ _ ?_; clear hK K
      try simp only [Act.put]
      refine wpAny_done (by kernel_rfl) ?_ _
      go_roundw
      case rel => exact ⟨_, _, _, _, _, _, _, _, _, _, _, _, _, ⟨q, p % q, Hq.out, Nat.lt_trans Hlt.out Hq.out, Hgr.out, FIN.out, FS.out⟩, rfl⟩
      case measure => rw [Hval.out]; exact Nat.lt_of_le_of_lt (Nat.le_of_eq FV.out) Hlt.out
    · have t1 : decide ((lsz q : Int) > 2) = false := by simp; omega
      have hq2 : q < bb ^ 2 := (lsz_le_iff 2 q).1 (by omega)
      obtain ⟨s, hs⟩ : ∃ s, lsz q = s := ⟨_, rfl⟩
      rw [hs] at t1 cs
      have Cs := Lib.hid cs
      have HG := Lib.hid G
      have cz := fun w => isZero_any q hq30 w
      by_cases hq0 : q = 0
      · subst hq0
        rw [show decide (0 = 0) = true from rfl] at cz
        rw [Nat.gcd_zero_right] at hg
        subst hg
        have Cz := Lib.hid cz
        clear cs cz hs hbig G hp hq hq30 hq2
        go_wp2_with (first
          | ((with_reducible refine ld86 (w.heap.size + 1) 0 0 ?_ ?_ ?_); (· exact ⟨rfl, _, rfl, rfl⟩); · first | exact HG.out.r1 | exact range_keep HG.out.r1 HB1.out)
          | ((with_reducible refine ld86 w.heap.size 0 (Nat.gcd m o) ?_ ?_ ?_); (· exact ⟨rfl, _, rfl, rfl⟩); · exact range_keep HG.out.r0 HB2.out)
          | (go_at_call 159; (with_reducible refine (Cs.out _).mono ?_); rintro e w1 ⟨rfl, hb1⟩; have HB1 := Lib.hid hb1; clear hb1)
          | (go_at_call 86; (with_reducible refine (Cz.out _).mono ?_); rintro e w2 ⟨rfl, hb2⟩; have HB2 := Lib.hid (HB1.out.trans (hb2.mono HB1.out.size)); clear hb2)
          | ((with_reducible refine st86 (w.heap.size + 2) 0 (Nat.gcd m o) ?_ ?_ ?_); (· exact ⟨rfl, _, _, rfl, rfl, rfl⟩); · exact there_keep HG.out.t2 HB2.out))

        refine ret86 Tryz.results96 (w.heap.size + 2) 0 rfl (Nat.gcd m o) (range_set (there_keep HG.out.t2 HB2.out) (by rw [mgL_len])) rfl ⟨rfl, ?_⟩
        exact below_set (HG.out.below.trans (HB2.out.mono HG.out.below.size)) (by omega) _ _
      · rw [show decide (q = 0) = false by simpa using hq0] at cz
        have Cz := Lib.hid cz
        have h0 : 0 < q := Nat.pos_of_ne_zero hq0
        have hr2 : p % q < bb ^ 2 := Nat.lt_trans (Nat.mod_lt _ h0) hq2
        have Cd := Lib.hid (fun w => divide_all p q hp hq30 h0 w)
        have Cw1 := Lib.hid (fun w => word_any q hq2 w)
        have Cw2 := Lib.hid (fun w => word_any (p % q) hr2 w)
        have cg := fun w => gcdWords_any q (p % q) hq2 hr2 w
        rw [show Nat.gcd q (p % q) = Nat.gcd m o by rw [← hg, Nat.gcd_comm p, Nat.gcd_rec q p, Nat.gcd_comm]] at cg
        have Cg := Lib.hid cg
        have Cf := Lib.hid (fun w => fromWord_any (Nat.gcd m o) (by rw [← hg]; exact Nat.lt_of_le_of_lt (Nat.gcd_le_right _ h0) hq2) w)
        clear cs cz hs hbig G hp hq hq30 hq2 h0 hr2 cg hg hq0
        go_wp2_with (first
          | ((with_reducible refine ld86 (w.heap.size + 1) 0 q ?_ ?_ ?_); (· exact ⟨rfl, _, rfl, rfl⟩); · first | exact HG.out.r1 | exact range_keep HG.out.r1 HB2.out | exact range_keep HG.out.r1 HB1.out)
          | ((with_reducible refine ld86 w.heap.size 0 p ?_ ?_ ?_); (· exact ⟨rfl, _, rfl, rfl⟩); · exact range_keep HG.out.r0 HB2.out)
          | (go_at_call 159; (with_reducible refine (Cs.out _).mono ?_); rintro e w1 ⟨rfl, hb1⟩; have HB1 := Lib.hid hb1; clear hb1)
          | (go_at_call 86; (with_reducible refine (Cz.out _).mono ?_); rintro e w2 ⟨rfl, hb2⟩; have HB2 := Lib.hid (HB1.out.trans (hb2.mono HB1.out.size)); clear hb2)
          | (go_at_call 154; (with_reducible refine (Cd.out _).mono ?_); rintro e w3 ⟨rfl, hb3⟩; have HB3 := Lib.hid (HB2.out.trans (hb3.mono HB2.out.size)); clear hb3)
          | ((with_reducible refine al_zb 86 _ w3.heap.size ?_ ?_ z86 ?_); (· exact ⟨rfl, rfl⟩); · rfl)
          | ((with_reducible refine al_zb 86 _ (w3.heap.size + 1) ?_ ?_ z86 ?_); (· exact ⟨rfl, rfl⟩); · (simp; done))
          | ((with_reducible refine st86 w3.heap.size 0 (p / q) ?_ ?_ ?_); (· exact ⟨rfl, _, _, rfl, rfl, rfl⟩); · exact gd_there0 w3)
          | ((with_reducible refine st86 (w3.heap.size + 1) 0 (p % q) ?_ ?_ ?_); (· exact ⟨rfl, _, _, rfl, rfl, rfl⟩); · exact World.there_setCells (gd_there1 w3) _ _ _))

        try simp only [Act.put, List.setIfInBounds_toArray, List.set_cons_zero, List.set_cons_succ]
        have hz3 := HB3.out.size
        have G2 := Lib.hid ((HG.out.keep (HB3.out.trans ((nw2_old w3 (p / q) (p % q)).mono hz3))).drew)
        have R6 : (nw2 w3 (p / q) (p % q)).drew.rangeAt (w3.heap.size + 1) 0 (mgL (p % q)) := nw2_at1 w3 (p / q) (p % q)
        have R6 := Lib.hid R6
        have hne : w3.heap.size + 1 ≠ w.heap.size + 2 := by omega
        clear hz3
        refine wp_region_held_drew (S := (fun w' => Below w.heap.size w w' ∧ w'.rangeAt (w.heap.size + 1) 0 (mgL q) ∧ w'.rangeAt (w3.heap.size + 1) 0 (mgL (p % q)) ∧ w'.there (w.heap.size + 2) 0 30)) (by kernel_rfl) ?_ (fun hH => ?_)
        · exact ⟨G2.out.below, G2.out.r1, R6.out, G2.out.t2⟩
        try dsimp only at hH
        refine wpAnyH_take (i := 0) (v := (.agg (mgL q).toArray)) rfl (by kernel_rfl) (by kernel_rfl) (by kernel_rfl) (fun _ _ _ h => h) (yld86 (w.heap.size + 1) 0 q rfl ⟨_, rfl, rfl⟩ (fun wz hz => hz.2.1)) hH ?_
        try simp only [Act.put, List.getElem_toArray, List.getElem_cons_zero, List.setIfInBounds_toArray, List.set_cons_zero, List.set_cons_succ]
        refine wpAnyH_take (i := 2) (v := (.agg (mgL (p % q)).toArray)) rfl (by kernel_rfl) (by kernel_rfl) (by kernel_rfl) (fun _ _ _ h => h) (yld86 (w3.heap.size + 1) 0 (p % q) rfl ⟨_, rfl, rfl⟩ (fun wz hz => hz.2.2.1)) hH ?_
        try simp only [Act.put, List.getElem_toArray, List.getElem_cons_succ, List.getElem_cons_zero, List.setIfInBounds_toArray, List.set_cons_zero, List.set_cons_succ]
        refine wpAnyH_ready (rs := [1]) (by kernel_rfl) (by simp) ?_
        refine AllReadyH.cons rfl (fun K hK => ?_) AllReadyH.nil
        simp only [List.getElem_toArray, List.getElem_cons_succ, List.getElem_cons_zero]
        rw [if_pos (by rfl)]
        go_simp
        refine (Cw1.out _).mono ?_; rintro e w1 ⟨rfl, hb1⟩
        try simp only []
        refine hK.out _ _ ?_ (fun hH1 => ?_)
        · exact ⟨(hH.1).trans (hb1.mono (hH.1).size), range_keep hH.2.1 hb1, range_keep hH.2.2.1 hb1, there_keep hH.2.2.2 hb1⟩
        clear hK K
        try simp only [Act.put, List.getElem_toArray, List.getElem_cons_succ, List.getElem_cons_zero, List.setIfInBounds_toArray, List.set_cons_zero, List.set_cons_succ]
        refine wpAnyH_ready (rs := [3]) (by kernel_rfl) (by simp) ?_
        refine AllReadyH.cons rfl (fun K hK => ?_) AllReadyH.nil
        simp only [List.getElem_toArray, List.getElem_cons_succ, List.getElem_cons_zero]
        rw [if_pos (by rfl)]
        go_simp
        refine (Cw2.out _).mono ?_; rintro e w2 ⟨rfl, hb2⟩
        try simp only []
        refine hK.out _ _ ?_ (fun hH2 => ?_)
        · exact ⟨(hH1.1).trans (hb2.mono (hH1.1).size), range_keep hH1.2.1 hb2, range_keep hH1.2.2.1 hb2, there_keep hH1.2.2.2 hb2⟩
        clear hK K
        try simp only [Act.put, List.getElem_toArray, List.getElem_cons_succ, List.getElem_cons_zero, List.setIfInBounds_toArray, List.set_cons_zero, List.set_cons_succ]
        refine wpAnyH_ready (rs := [4]) (by kernel_rfl) (by simp) ?_
        refine AllReadyH.cons rfl (fun K hK => ?_) AllReadyH.nil
        simp only [List.getElem_toArray, List.getElem_cons_succ, List.getElem_cons_zero]
        rw [if_pos (by rfl)]
        go_simp
        refine (Cg.out _).mono ?_; rintro e w3 ⟨rfl, hb3⟩
        try simp only []
        refine hK.out _ _ ?_ (fun hH3 => ?_)
        · exact ⟨(hH2.1).trans (hb3.mono (hH2.1).size), range_keep hH2.2.1 hb3, range_keep hH2.2.2.1 hb3, there_keep hH2.2.2.2 hb3⟩
        clear hK K
        try simp only [Act.put, List.getElem_toArray, List.getElem_cons_succ, List.getElem_cons_zero, List.setIfInBounds_toArray, List.set_cons_zero, List.set_cons_succ]
        refine wpAnyH_ready (rs := [5]) (by kernel_rfl) (by simp) ?_
        refine AllReadyH.cons rfl (fun K hK => ?_) AllReadyH.nil
        simp only [List.getElem_toArray, List.getElem_cons_succ, List.getElem_cons_zero]
        rw [if_pos (by rfl)]
        go_simp
        refine (Cf.out _).mono ?_; rintro e w4 ⟨rfl, hb4⟩
        try simp only []
        refine hK.out _ _ ?_ (fun hH4 => ?_)
        · exact ⟨(hH3.1).trans (hb4.mono (hH3.1).size), range_keep hH3.2.1 hb4, range_keep hH3.2.2.1 hb4, there_keep hH3.2.2.2 hb4⟩
        clear hK K
        try simp only [Act.put, List.getElem_toArray, List.getElem_cons_succ, List.getElem_cons_zero, List.setIfInBounds_toArray, List.set_cons_zero, List.set_cons_succ]
        refine wpAnyH_ready (rs := [6]) (by kernel_rfl) (by simp) ?_
        refine AllReadyH.cons rfl (fun K hK => ?_) AllReadyH.nil
        simp only [List.getElem_toArray, List.getElem_cons_succ, List.getElem_cons_zero]
        rw [if_pos (by rfl)]
        with_reducible refine wst86 (w.heap.size + 2) 0 (Nat.gcd m o) ?_ hH4.2.2.2 ?_
        · exact ⟨_, _, rfl, rfl, rfl⟩
        refine hK.out _ _ ?_ (fun hH5 => ?_)
        · exact ⟨below_set hH4.1 (by omega) _ _, range_setk hH4.2.1 (by first | trivial | omega), range_setk hH4.2.2.1 (by first | trivial | omega), there_setk hH4.2.2.2 (by first | trivial | omega)⟩
        clear hK K
        try simp only [Act.put]
        refine wpAnyH_done (by kernel_rfl) ?_ _
        go_wp2
        exact ret86 Tryz.results96 (w.heap.size + 2) 0 rfl (Nat.gcd m o) (range_set hH4.2.2.2 (by rw [mgL_len])) rfl ⟨rfl, hH5.1⟩
end Go.Proofs.YtpbegoflpfdajaaGreatDoor

/- WHAT IS PROVED: contracts of functions of the numbers package and laws for them, used by the last text of this claim. CONDITIONS: stated at each theorem. -/
import Derived.Test.YtpbegoflpfdajaaGreatDoorN18
import Derived.WalkMore
import Derived.Deep.LoopGhost
import Derived.LoopTactic
import Derived.Laws.IdiomCopy
import Derived.Deep.OwnRows
import Derived.Test.YtpbegoflpfdajaaGreatDoorN05
namespace Go.Proofs.YtpbegoflpfdajaaGreatDoor
open Go.RowKit

set_option maxHeartbeats 2000000 in
/-- subtractProduct: D times v is taken away from the limbs from c on -/
theorem subProd_any (X D v c s g h cp cq : Nat) (hs : c + s ≤ 30) (hv : v < bb ^ s) (hD : D < bb) (hX0 : X < bb ^ (c + s + 1)) (hgh : h ≠ g) (w : World) (hx : Xs X X 0 g w) (hd : ∀ i, i < s → w.cell? ⟨h, i, none⟩ = some (.int .u32 (lim v i))) :
    Calls Tryz.prog 213 #[.slice (some ⟨g, c, none⟩) (31 - c : Nat) cp, .slice (some ⟨h, 0, none⟩) s cq, .int .u64 D] w fun e w' => e = .returned (.bool (decide (X / bb ^ c < D * v))) ∧ Xs X (tk X D v c s) (c + s + 1) g w' ∧ Oth g w w' := by
  have hx' := hx.start (c := c) (tk_low (X := X) hv hD)
  have fl := fun i hi => tk_lim (X := X) (c := c) hv hD i hi
  have fb := fun i hi => tk_bor (X := X) (D := D) (v := v) (c := c) (s := s) i hi
  have f0 := tk_bor0 (X := X) (D := D) (v := v) (c := c) (s := s)
  have fo := tk_over (X := X) hv hD hX0
  have ct := cy_top hv hD
  obtain ⟨V, hV⟩ : ∃ V, D * v * bb ^ c = V := ⟨_, rfl⟩
  obtain ⟨A, hA⟩ : ∃ A, X + bb ^ (c + s + 1) = A := ⟨_, rfl⟩
  obtain ⟨Y, hY⟩ : ∃ Y, tk X D v c s = Y := ⟨_, rfl⟩
  obtain ⟨b, hb⟩ : ∃ b, decide (X / bb ^ c < D * v) = b := ⟨_, rfl⟩
  rw [hY] at hx' ⊢
  rw [hA, hV] at f0 fo
  simp only [hV, hA, hY] at fl fb
  rw [hb]
  have fo' : bor A V (c + s + 1) = if b = true then 1 else 0 := by rw [fo, ← hb]; simp
  have Hd := Lib.hid hd; have Hx := Lib.hid hx'; have FL := Lib.hid fl; have FB := Lib.hid fb; have F0 := Lib.hid f0; have FO := Lib.hid fo'; have CT := Lib.hid ct
  have CL := Lib.hid (cy_lim D v); have CS := Lib.hid (cy_succ D v); have CE := Lib.hid (cy_le D v); have C0 := Lib.hid (cy_zero D v)
  have hD9 : D < 1000000000 := hD
  clear hx hd hv hV hA hY hb fl fb f0 fo fo' ct hx' hD hX0
  go_enter Tryz.func213, Tryz.ntmps213
  go_wp2
  go_loopw [7, 8, 15] (fun cr br i wr => ∃ k : Nat, k ≤ s ∧ i = .int .i64 k ∧ cr = .int .u64 (cy D v k) ∧ br = .int .u32 (bor A V (c + k)) ∧ Xs X Y (c + k) g wr ∧ Oth g w wr) (fun _ _ i _ => s - (intOf i).toNat)
  case atStart => exact ⟨0, by omega, rfl, by rw [C0.out]; rfl, by rw [F0.out]; rfl, Hx.out, Oth.refl _ _⟩
  case round =>
    obtain ⟨k, hk, rfl, rfl, rfl, hX, hO⟩ := hrel
    by_cases hlt : k < s
    · have c1 := hX.at (j := c + k) (by omega) (Nat.le_refl _)
      have c2 := (hO.cell (p := ⟨h, k, none⟩) hgh).trans (Hd.out k hlt)
      have f1 := hX.fr (j := c + k) (by omega)
      have b1 := lim_lt' X (c + k)
      have b2 := lim_lt' v k
      have b3 := bor_le A V (c + k)
      have b4 := lim_lt' (D * v) k
      have b5 := CE.out k
      have e1 := FL.out k hk
      have e2 := FB.out k hk
      have e3 := CL.out k
      have e4 := CS.out k
      rw [show bb = 1000000000 from rfl] at e1 e2 e3 e4
      have HX := Lib.hid hX; have HO := Lib.hid hO
      clear hX hO
      generalize lim X (c + k) = p at *
      generalize lim v k = q at *
      generalize bor A V (c + k) = br at *
      generalize lim (D * v) k = dv at *
      generalize cy D v k = cr at *
      have m1 : D * q ≤ 999999999 * 999999999 := Nat.mul_le_mul (by omega) (by omega)
      obtain ⟨M, hM⟩ : ∃ M, D * q = M := ⟨_, rfl⟩
      have hMi : (D : Int) * (q : Int) = (M : Int) := by rw [← hM]; simp
      rw [hM] at m1 e3 e4
      have E2 := Lib.hid e2
      have E1 := Lib.hid e1
      have E3 := Lib.hid e3
      have E4 := Lib.hid e4
      clear e1 e2 e3 e4 hM
      go_wp2
      refine ⟨⟨k + 1, by omega, by go_num, ?_, ?_, ?_, HO.out.set _ _⟩, by simp [intOf]; omega⟩
      · rw [← E4.out]; exact int_v (by omega)
      · rw [E2.out]; have := E3.out; exact int_v (by omega)
      · refine HX.out.set' (by omega) ?_
        have := E3.out
        rw [E1.out]; omega
    · have he : k = s := by omega
      subst he
      have c1 := hX.at (j := c + k) (by omega) (Nat.le_refl _)
      have f1 := hX.fr (j := c + k) (by omega)
      have b1 := lim_lt' X (c + k)
      have b3 := bor_le A V (c + k)
      have b4 := lim_lt' (D * v) k
      have e1 := FL.out k (Nat.le_refl _)
      have e2 := FB.out k (Nat.le_refl _)
      rw [show c + (k + 1) = c + k + 1 from rfl, FO.out] at e2
      rw [CT.out]
      rw [show bb = 1000000000 from rfl] at e1 e2
      have HX := Lib.hid hX; have HO := Lib.hid hO
      clear hX hO
      generalize lim X (c + k) = p at *
      generalize bor A V (c + k) = br at *
      generalize lim (D * v) k = dv at *
      have E2 := Lib.hid e2
      have E1 := Lib.hid e1
      clear e1 e2
      cases b with
      | true =>
        have t1 : decide ((p : Int) + 1000000000 - (dv : Int) - (br : Int) < 1000000000) = true := by have := E2.out; simp at this; simp; omega
        go_wp2
        go_ret
        refine ⟨rfl, ?_, HO.out.set _ _⟩
        refine HX.out.set' (by omega) ?_
        rw [E1.out]; omega
      | false =>
        have t1 : decide ((p : Int) + 1000000000 - (dv : Int) - (br : Int) < 1000000000) = false := by have := E2.out; simp at this; simp; omega
        go_wp2
        go_ret
        refine ⟨rfl, ?_, HO.out.set _ _⟩
        refine HX.out.set' (by omega) ?_
        rw [E1.out]; omega
end Go.Proofs.YtpbegoflpfdajaaGreatDoor

namespace Go.Proofs.YtpbegoflpfdajaaGreatDoor
open Go.RowKit

@[irreducible] def gm (v : Value) : Nat := 1000000000 - (intOf v).toNat
theorem gm_lt {a b : Nat} (h : a < b) (hb : a < 1000000000) : gm (.int .u64 (b : Nat)) < gm (.int .u64 (a : Nat)) := by
  unfold gm; simp only [intOf]; omega
set_option maxHeartbeats 4000000 in
set_option maxRecDepth 20000 in
/-- guessDigit -/
theorem guess_any (X v c s g h cp cq : Nat) (hs2 : 2 ≤ s) (hs : c + s ≤ 30) (hv1 : bb ^ (s - 1) ≤ v) (hv : v < bb ^ s) (hR : X / bb ^ c < v * bb) (w : World) (hx : Xs X X 0 g w) (hd : ∀ i, i < s → w.cell? ⟨h, i, none⟩ = some (.int .u32 (lim v i))) :
    Calls Tryz.prog 212 #[.slice (some ⟨g, c, none⟩) (31 - c : Nat) cp, .slice (some ⟨h, 0, none⟩) s cq] w fun e w' => ∃ D : Nat, e = .returned (.int .u64 D) ∧ (D < bb ∧ D * v ≤ X / bb ^ c + v ∧ X / bb ^ c < (D + 1) * v) ∧ ∃ n, w' = w.drewN n := by
  obtain ⟨R, hRe⟩ : ∃ R, X / bb ^ c = R := ⟨_, rfl⟩
  rw [hRe] at hR ⊢
  have l0 : lim X (c + s) = lim R s := by rw [← hRe, lim_div]
  have l1 : lim X (c + (s - 1)) = lim R (s - 1) := by rw [← hRe, lim_div]
  have l2 : lim X (c + (s - 2)) = lim R (s - 2) := by rw [← hRe, lim_div]
  have c0 := hx.at (j := c + s) (by omega) (by omega)
  have c1 := hx.at (j := c + (s - 1)) (by omega) (by omega)
  have c2 := hx.at (j := c + (s - 2)) (by omega) (by omega)
  have d1 := hd (s - 1) (by omega)
  have d2 := hd (s - 2) (by omega)
  rw [l0] at c0; rw [l1] at c1; rw [l2] at c2
  have tp := top_pos hs2 hv1 hv
  obtain ⟨H, hH⟩ : ∃ H, H = lim R s * bb + lim R (s - 1) := ⟨_, rfl⟩
  have gf := Guess.first hs2 hv1 hv hR hH
  have gbig := fun D o => Guess.big (D := D) (over := o) hs2 hv1 hv hR hH
  have gov := fun D o => Guess.over' (D := D) (over := o) hs2 hv hR hH
  have gdn := fun D o => Guess.done (D := D) (over := o) hs2 hv1 hv hR hH
  have gst := fun D o => Guess.stop (D := D) (over := o) hs2 hv1 hv hR hH
  have gls := fun D o => Guess.less (R := R) (v := v) (s := s) (H := H) (D := D) (over := o)
  have b0 := lim_lt' R s
  have b1 := lim_lt' R (s - 1)
  have b2 := lim_lt' R (s - 2)
  have b3 := lim_lt' v (s - 1)
  have b4 := lim_lt' v (s - 2)
  obtain ⟨a, ha⟩ : ∃ a, s - 1 = a := ⟨_, rfl⟩
  obtain ⟨b, hb⟩ : ∃ b, s - 2 = b := ⟨_, rfl⟩
  rw [ha] at c1 d1 tp hH gf b1 b3
  simp only [ha] at gls
  rw [hb] at c2 d2 b2 b4
  simp only [hb] at gov gdn
  have i1 : (s : Int) - 1 = (a : Int) := by omega
  have i2 : (s : Int) - 2 = (b : Int) := by omega
  have has : a < s := by omega
  have hbs : b < s := by omega
  have GB := Lib.hid gbig; have GO := Lib.hid gov; have GD := Lib.hid gdn; have GS := Lib.hid gst; have GL := Lib.hid gls; have GF := Lib.hid gf; have HH := Lib.hid hH
  clear gbig gov gdn gst gls gf hH hx hd l0 l1 l2 hRe hR hv hv1 ha hb
  rw [show bb = 1000000000 from rfl] at *
  have hh := HH.out
  generalize lim R s = r0 at *
  generalize lim R a = r1 at *
  generalize lim R b = r2 at *
  generalize lim v a = va at *
  generalize lim v b = vb at *
  have hH9 : H ≤ 999999999999999999 := by omega
  have hq := Nat.div_le_self H va
  have hm := Nat.mod_lt H tp
  have va0 : (0 : Int) < (va : Int) := by omega
  have va1 : ((va : Int) == 0) = false := by simp; omega
  have hHi : (r0 : Int) * 1000000000 + (r1 : Int) = (H : Int) := by omega
  have HHi := Lib.hid hHi
  obtain ⟨Q0, hQ0⟩ : ∃ Q, H / va = Q := ⟨_, rfl⟩
  obtain ⟨M0, hM0⟩ : ∃ Q, H % va = Q := ⟨_, rfl⟩
  have hqi : (H : Int) / (va : Int) = (Q0 : Int) := by rw [← hQ0]; simp
  have hmi : (H : Int) % (va : Int) = (M0 : Int) := by rw [← hM0]; simp
  rw [hQ0] at hq GF
  rw [hM0] at hm GF
  have hQ2 : Q0 ≤ 2000000000 := by
    by_cases hb : 1000000000 ≤ Q0
    · exact (GB.out _ _ GF.out hb).2.2
    · omega
  clear hh HH hQ0 hM0
  go_enter Tryz.func212, Tryz.ntmps212
  go_wp2_with fail
  go_step3
  go_wp2_with fail
  go_quiet (fail)
  go_wp2_with fail
  go_step3
  go_wp2_with fail
  go_loopw [7, 8] (fun x y wr => ∃ D o n : Nat, x = .int .u64 D ∧ y = .int .u64 o ∧ Guess R v s H D o ∧ D ≤ 2000000000 ∧ o < 1000000000 ∧ wr = w.drewN n) (fun _ y _ => gm y)
  case atStart => exact ⟨Q0, M0, _, rfl, by rw [hmi], GF.out, hQ2, by omega, rfl⟩
  case round =>
    obtain ⟨D, o, n, rfl, rfl, hG, hD, ho, rfl⟩ := hrel
    have HG := Lib.hid hG
    clear hG hqi hmi
    have m1 : D * vb ≤ 2000000000 * 999999999 := Nat.mul_le_mul hD (by omega)
    obtain ⟨M, hM⟩ : ∃ M, D * vb = M := ⟨_, rfl⟩
    have hMi : (D : Int) * (vb : Int) = (M : Int) := by rw [← hM]; simp
    have go1 := GO.out D o HG.out
    have gd1 := GD.out D o HG.out
    rw [hM] at m1 go1 gd1
    have HM := Lib.hid hM
    clear hM
    by_cases t : (1000000000 ≤ D ∨ o * 1000000000 + r2 < M)
    · have hup : R < D * v := by
        rcases t with t | t
        · exact (GB.out D o HG.out t).1
        · exact go1 t
      obtain ⟨hD0, hG2⟩ := GL.out D o HG.out hup
      have HG2 := Lib.hid hG2
      clear hG2 hup go1 gd1
      by_cases t1 : 1000000000 ≤ D
      · have td : decide ((D : Int) ≥ 1000000000) = true := by simp; omega
        by_cases t3 : 1000000000 ≤ o + va
        · have te : decide ((o : Int) + (va : Int) ≥ 1000000000) = true := by simp; omega
          go_wp2_with fail
          rw [Exit.noGoto_ret]; go_ret
          have hst := GS.out _ _ HG2.out t3
          exact ⟨D - 1, ret_int (by omega), ⟨hst.1, hst.2, HG2.out.up⟩, _, rfl⟩
        · have te : decide ((o : Int) + (va : Int) ≥ 1000000000) = false := by simp; omega
          go_wp2_with fail
          refine ⟨⟨D - 1, o + va, _, ?_, ?_, HG2.out, by omega, by omega, rfl⟩, ?_⟩
          · exact int_v (by omega)
          · exact int_v (by omega)
          · exact gm_lt (by omega) ho
      · have td : decide ((D : Int) ≥ 1000000000) = false := by simp; omega
        have tf : decide ((M : Int) > (o : Int) * 1000000000 + (r2 : Int)) = true := by simp; omega
        by_cases t3 : 1000000000 ≤ o + va
        · have te : decide ((o : Int) + (va : Int) ≥ 1000000000) = true := by simp; omega
          go_wp2_with fail
          go_quiet (fail)
          go_wp2_with fail
          rw [Exit.noGoto_ret]; go_ret
          have hst := GS.out _ _ HG2.out t3
          exact ⟨D - 1, ret_int (by omega), ⟨hst.1, hst.2, HG2.out.up⟩, _, rfl⟩
        · have te : decide ((o : Int) + (va : Int) ≥ 1000000000) = false := by simp; omega
          go_wp2_with fail
          go_quiet (fail)
          go_wp2_with fail
          refine ⟨⟨D - 1, o + va, _, ?_, ?_, HG2.out, by omega, by omega, rfl⟩, ?_⟩
          · exact int_v (by omega)
          · exact int_v (by omega)
          · exact gm_lt (by omega) ho
    · have td : decide ((D : Int) ≥ 1000000000) = false := by simp; omega
      have tf : decide ((M : Int) > (o : Int) * 1000000000 + (r2 : Int)) = false := by simp; omega
      have hdn := gd1 (by omega) (by omega)
      have Hdn := Lib.hid hdn
      clear hdn go1 gd1
      go_wp2_with fail
      go_quiet (fail)
      go_wp2_with fail
      rw [Exit.noGoto_ret]; go_ret
      exact ⟨D, rfl, ⟨by omega, Hdn.out, HG.out.up⟩, n + nq, by rw [World.drewN_drewN]⟩
end Go.Proofs.YtpbegoflpfdajaaGreatDoor

namespace Go.Proofs.YtpbegoflpfdajaaGreatDoor
open Go.RowKit

/-! the blocks of a long division -/
theorem size_setCells (b : Nat) : ∀ (vs : List Value) (o : Nat) (w : World), (w.setCells b o vs).heap.size = w.heap.size
  | [], _, _ => rfl
  | v :: vs, o, w => (size_setCells b vs (o + 1) _).trans (by simp)
theorem cp220 {ops : Array Oper} {rest : List Oper} {op : Oper} {a : Act} {w : World} {Q : Exit → Act → World → Prop} (b o dLen dCap b2 o2 sLen sCap : Nat) (cs : List Value) (n : Nat)
    (ho : op.guard = none ∧ ∃ d s, op.op = .call { callee := .builtin .copy, args := #[d, s], argTypes := #[220, 220] } ∧ a.eval d = .slice (some ⟨b, o, none⟩) dLen dCap ∧ a.eval s = .slice (some ⟨b2, o2, none⟩) sLen sCap)
    (hl : cs.length = n) (hn : n = Nat.min sLen dLen) (hr : w.rangeAt b2 o2 cs) (ht : w.there b o n) (h1 : ∀ v ∈ cs, v.oneCell' = true)
    (h : wpList Tryz.prog ops Q rest (a.put op.dst (goInt n)) (w.setCells b o cs)) : wpList Tryz.prog ops Q (op :: rest) a w := by
  obtain ⟨hg, d, s, hop, hd, hs⟩ := ho
  subst hl
  have hrun := run_copy_cells (P := Tryz.prog) w 220 220 op.type 82 b o dLen dCap ⟨b2, o2, none⟩ sLen sCap cs Tryz.underlying220 (by kernel_rfl) hn
    (fun j v hv => by rw [Addr.add_mid]; exact hr j v hv) (fun j hj => (ht j hj).1) (fun j hj => (ht j hj).2) h1
  refine wpList_plain hg fun K hK => ?_
  unfold Oper.wp
  simp [execOp, hop, resolve, invoke, builtin, hd, hs, hrun, Result.andThen]
  exact hK _ _ h
theorem info82 : (Tryz.prog.info? 82).map (fun i => (i.zero, i.size, i.bytes)) = some (some (.int .u32 0), 1, 4) := by kernel_rfl
theorem make31 (w : World) : (Instr.makeSlice 220 (.int .i64 31) (.int .i64 31)).run Tryz.prog w = .ok (.slice (some ⟨w.heap.size, 0, none⟩) 31 31) (w.alloc (.cells (madeCells #[.int .u32 0] 31) 82)) :=
  run_make_row' (P := Tryz.prog) 220 82 (.int .u32 0) 4 Tryz.underlying220 info82 rfl .i64 .i64 31 (by omega) (by omega) w
theorem makeN (n : Nat) (hn : n ≤ 1000) (w : World) : (Instr.makeSlice 220 (.int .i64 n) (.int .i64 n)).run Tryz.prog w = .ok (.slice (some ⟨w.heap.size, 0, none⟩) n n) (w.alloc (.cells (madeCells #[.int .u32 0] n) 82)) :=
  run_make_row' (P := Tryz.prog) 220 82 (.int .u32 0) 4 Tryz.underlying220 info82 rfl .i64 .i64 n (by omega) (by omega) w
theorem mk220 {ops : Array Oper} {rest : List Oper} {op : Oper} {a : Act} {w : World} {Q : Exit → Act → World → Prop} (b n : Nat) (x : Int)
    (ho : op.guard = none ∧ ∃ l c, op.op = .makeSlice 220 l c ∧ a.eval l = .int .i64 x ∧ a.eval c = .int .i64 x) (hx : x = (n : Nat)) (hb : b = w.heap.size) (hn : n ≤ 1000)
    (h : wpList Tryz.prog ops Q rest (a.put op.dst (.slice (some ⟨b, 0, none⟩) n n)) (w.alloc (.cells (madeCells #[.int .u32 0] n) 82))) : wpList Tryz.prog ops Q (op :: rest) a w := by
  obtain ⟨hg, l, c, hop, hl, hc⟩ := ho
  subst hb; subst hx
  refine wpList_plain hg fun K hK' => ?_
  have hrun := makeN n hn w
  unfold Oper.wp
  simp [execOp, hop, hl, hc, hrun, Result.andThen]
  exact hK' _ _ h
theorem made_get (n i : Nat) (h : i < n) : (madeCells #[.int .u32 0] n)[i]? = some (.int .u32 0) := by
  simp [madeCells, h, Nat.mod_one]
theorem made_cell (w : World) (n i : Nat) (h : i < n) : (w.alloc (.cells (madeCells #[.int .u32 0] n) 82)).cell? ⟨w.heap.size, i, none⟩ = some (.int .u32 0) ∧ (w.alloc (.cells (madeCells #[.int .u32 0] n) 82)).frozen? ⟨w.heap.size, i, none⟩ = false := by
  have := made_get n i h
  constructor
  · simp [this]
  · simp
theorem made_there (w : World) (n : Nat) : (w.alloc (.cells (madeCells #[.int .u32 0] n) 82)).there w.heap.size 0 n := fun j hj => by
  obtain ⟨h1, h2⟩ := made_cell w n j hj
  rw [Nat.zero_add, h1, h2]; exact ⟨rfl, rfl⟩
/-- 31 limbs from 30 -/
theorem made_xs (w : World) (M b : Nat) (hM : M < bb ^ 30) (hb : b = w.heap.size) : Xs M M 0 b ((w.alloc (.cells (madeCells #[.int .u32 0] 31) 82)).setCells b 0 (mgL M)) := fun j hj => by
  subst hb
  rw [if_neg (by omega)]
  by_cases h : j < 30
  · have ht : (w.alloc (.cells (madeCells #[.int .u32 0] 31) 82)).there w.heap.size 0 (mgL M).length := fun i hi => by
      rw [mgL_len] at hi
      exact made_there w 31 i (by omega)
    have hs := World.there_setCells ht w.heap.size 0 (mgL M) j (by rw [mgL_len]; exact h)
    have hr := World.rangeAt_setCells_same _ w.heap.size 0 (mgL M) ht j _ (mgL_get h)
    rw [Nat.zero_add] at hs hr
    exact ⟨hr, hs.2⟩
  · obtain rfl : j = 30 := by omega
    obtain ⟨h1, h2⟩ := made_cell w 31 30 (by omega)
    rw [lim_of_lt hM]
    refine ⟨?_, ?_⟩
    · rw [World.cell?_setCells_out w.heap.size (mgL M) 0 _ ⟨w.heap.size, 30, none⟩ (fun _ _ => Or.inr (by rw [mgL_len]; exact Nat.le_refl _))]; exact h1
    · rw [World.frozen?_setCells]; exact h2

theorem Xs.keep {X Y k g : Nat} {w w' : World} (h : Xs X Y k g w) (hb : Below w.heap.size w w') : Xs X Y k g w' := fun j hj => by
  obtain ⟨h1, h2⟩ := h j hj
  have hlt := World.block_lt_of_cell? w _ h1
  rw [hb.cell (p := ⟨g, j, none⟩) hlt, hb.frozen (p := ⟨g, j, none⟩) hlt]; exact ⟨h1, h2⟩
theorem Xs.setk {X Y k g b o : Nat} {w : World} {cs : List Value} (h : Xs X Y k g w) (hne : g ≠ b) : Xs X Y k g (w.setCells b o cs) := fun j hj => by
  rw [World.cell?_setCells_out b cs o w ⟨g, j, none⟩ (fun hb _ => absurd hb hne), World.frozen?_setCells]; exact h j hj
theorem Xs.alloc {X Y k g : Nat} {w : World} (h : Xs X Y k g w) (ob : Obj) : Xs X Y k g (w.alloc ob) := h.keep ((Below.refl _ _).alloc (Nat.le_refl _) _)

/-- the blocks that the first product, the rest and the divisor get -/
def nwE (w : World) (M s : Nat) : World := ((((w.alloc (.cells (mgL 0).toArray 86)).setCells w.heap.size 0 (mgL M)).alloc (.cells (madeCells #[.int .u32 0] 31) 82)).setCells (w.heap.size + 1) 0 (mgL M)).alloc (.cells (madeCells #[.int .u32 0] s) 82)
section
variable (w : World) (M s : Nat)
theorem nwE_old : Below w.heap.size w (nwE w M s) :=
  (below_set ((below_set ((Below.refl _ _).alloc (Nat.le_refl _) _) (Nat.le_refl _) _ _).alloc (by simp [size_setCells]) _) (by omega) _ _).alloc (by simp [size_setCells]; omega) _
theorem nwE_size : (nwE w M s).heap.size = w.heap.size + 3 := by unfold nwE; simp [size_setCells]
theorem nwE_at : (nwE w M s).rangeAt w.heap.size 0 (mgL M) :=
  World.rangeAt_alloc (range_setk (World.rangeAt_alloc (range_set (there_at rfl _ 86 (by rw [mgL_len])) (by rw [mgL_len])) _) (by omega)) _
theorem nwE_xs (hM : M < bb ^ 30) : Xs M M 0 (w.heap.size + 1) (nwE w M s) := (made_xs _ M (w.heap.size + 1) hM (by simp [size_setCells])).alloc _
theorem nwE_there : (nwE w M s).there (w.heap.size + 2) 0 s := by
  have := made_there ((((w.alloc (.cells (mgL 0).toArray 86)).setCells w.heap.size 0 (mgL M)).alloc (.cells (madeCells #[.int .u32 0] 31) 82)).setCells (w.heap.size + 1) 0 (mgL M)) s
  rwa [show ((((w.alloc (.cells (mgL 0).toArray 86)).setCells w.heap.size 0 (mgL M)).alloc (.cells (madeCells #[.int .u32 0] 31) 82)).setCells (w.heap.size + 1) 0 (mgL M)).heap.size = w.heap.size + 2 by simp [size_setCells]] at this
end
/-- the blocks that the second product and the quotient get, the divisor filled -/
def nwF (w : World) (v hh s : Nat) : World := (((w.alloc (.cells (mgL 0).toArray 86)).setCells w.heap.size 0 (mgL v)).setCells hh 0 ((mgL v).take s)).alloc (.cells (mgL 0).toArray 86)
section
variable {w : World} {v hh s : Nat}
theorem nwF_size : (nwF w v hh s).heap.size = w.heap.size + 2 := by unfold nwF; simp [size_setCells]
theorem nwF_below {B : Nat} (h : B ≤ hh) (h2 : B ≤ w.heap.size) : Below B w (nwF w v hh s) :=
  (below_set (below_set ((Below.refl _ _).alloc h2 _) h2 _ _) h _ _).alloc (by simp [size_setCells]; omega) _
theorem nwF_range {b o : Nat} {cs : List Value} (h : w.rangeAt b o cs) (hne : b ≠ hh) (hlt : b < w.heap.size) : (nwF w v hh s).rangeAt b o cs :=
  World.rangeAt_alloc (range_setk (range_setk (World.rangeAt_alloc h _) (by omega)) hne) _
theorem nwF_there {b o n : Nat} (h : w.there b o n) : (nwF w v hh s).there b o n :=
  World.there_alloc (World.there_setCells (World.there_setCells (World.there_alloc h _) _ _ _) _ _ _) _
theorem nwF_xs {X g : Nat} (h : Xs X X 0 g w) (hne : g ≠ hh) (hlt : g < w.heap.size) : Xs X X 0 g (nwF w v hh s) :=
  ((((h.alloc _).setk (by omega)).setk hne).alloc _)
theorem take_len (hs : s ≤ 30) : ((mgL v).take s).length = s := by rw [List.length_take, mgL_len]; omega
theorem nwF_cells (h : w.there hh 0 s) (hs : s ≤ 30) (i : Nat) (hi : i < s) : (nwF w v hh s).cell? ⟨hh, i, none⟩ = some (.int .u32 (lim v i)) := by
  have ht : ((w.alloc (.cells (mgL 0).toArray 86)).setCells w.heap.size 0 (mgL v)).there hh 0 ((mgL v).take s).length := by
    rw [take_len hs]; exact World.there_setCells (World.there_alloc h _) _ _ _
  have hr := World.rangeAt_setCells_same _ hh 0 ((mgL v).take s) ht
  have hr2 := World.rangeAt_alloc hr (.cells (mgL 0).toArray 86)
  exact cell_of_range hr2 (by rw [List.getElem?_take, if_pos hi]; exact mgL_get (by omega))
theorem nwF_quot : (nwF w v hh s).rangeAt (w.heap.size + 1) 0 (mgL 0) ∧ (nwF w v hh s).there (w.heap.size + 1) 0 30 :=
  ⟨range_at (by simp [size_setCells]) _ 86, there_at (by simp [size_setCells]) _ 86 (by rw [mgL_len])⟩
end
/-- what a long division's loop leaves as it is -/
structure Dv (w : World) (b7 h d v s : Nat) (W : World) : Prop where
  below : Below w.heap.size w W
  t2 : W.there (w.heap.size + 2) 0 30
  t3 : W.there (w.heap.size + 3) 0 30
  sc : W.rangeAt b7 0 (mgL d)
  dv : ∀ i, i < s → W.cell? ⟨h, i, none⟩ = some (.int .u32 (lim v i))
theorem Dv.oth {w W W' : World} {b7 h d v s x : Nat} (D : Dv w b7 h d v s W) (o : Oth x W W') (h1 : w.heap.size + 4 ≤ x) (h2 : b7 ≠ x) (h3 : h ≠ x) : Dv w b7 h d v s W' :=
  ⟨D.below.trans (o.below (by omega)), o.there (by omega) D.t2, o.there (by omega) D.t3, o.range h2 D.sc, fun i hi => (o.cell (p := ⟨h, i, none⟩) h3).trans (D.dv i hi)⟩
theorem Dv.drewN {w W : World} {b7 h d v s n : Nat} (D : Dv w b7 h d v s W) : Dv w b7 h d v s (W.drewN n) := ⟨below_drewN D.below, D.t2, D.t3, D.sc, D.dv⟩
theorem cells_keep {W w1 : World} {h v s : Nat} (hc : ∀ i, i < s → W.cell? ⟨h, i, none⟩ = some (.int .u32 (lim v i))) (hb : Below W.heap.size W w1) : ∀ i, i < s → w1.cell? ⟨h, i, none⟩ = some (.int .u32 (lim v i)) := fun i hi => cell_keep (hc i hi) hb
section
variable {M v c s D g : Nat} {W : World}
theorem rem_le (M v c : Nat) : rem M v c ≤ rem M v (c + 1) := by rw [rem_succ]; omega
/-- the digit was right -/
theorem step_ok (hv0 : 0 < v) (hv : v < bb ^ s) (hq : D = lim (M / v) c) (h : Xs (rem M v (c + 1)) (tk (rem M v (c + 1)) D v c s) (c + s + 1) g W) : Xs (rem M v c) (rem M v c) 0 g W := by
  obtain ⟨_, h2, h3⟩ := digit_ok hv0 hq
  have hs := rem_small (M := M) (c := c) hv0 hv
  refine h.all (fun j _ hj => ?_) (fun j _ hj => ?_)
  · rw [tk_ok h2 j hj, h3]
  · rw [lim_of_lt' hs hj, lim_of_lt' (Nat.lt_of_le_of_lt (rem_le M v c) hs) hj]
/-- the digit was one too large -/
theorem step_over (hv0 : 0 < v) (hv : v < bb ^ s) (hD : D < bb) (hq : D = lim (M / v) c + 1) (h : Xs (rem M v (c + 1)) (tk (rem M v (c + 1)) D v c s) (c + s + 1) g W) : Xs (tk (rem M v (c + 1)) D v c s) (tk (rem M v (c + 1)) D v c s) 0 g W := by
  obtain ⟨h1, _⟩ := digit_over hv0 hq
  have hs := rem_small (M := M) (c := c) hv0 hv
  have h5 : rem M v (c + 1) < D * v * bb ^ c := (Nat.div_lt_iff_lt_mul (bb_pow_pos c)).1 h1
  have hY : tk (rem M v (c + 1)) D v c s < bb ^ (c + s + 1) := by unfold tk; have := dv_lt (c := c) hv hD; omega
  refine h.all (fun j _ hj => rfl) (fun j _ hj => ?_)
  rw [lim_of_lt' hs hj, lim_of_lt' hY hj]
theorem step_back (hv0 : 0 < v) (hv : v < bb ^ s) (hD : D < bb) (hq : D = lim (M / v) c + 1) (h : Xs (tk (rem M v (c + 1)) D v c s) (tk (rem M v (c + 1)) D v c s + v * bb ^ c) (c + s + 1) g W) : Xs (rem M v c) (rem M v c) 0 g W := by
  obtain ⟨h1, h2, h3, h4⟩ := digit_over hv0 hq
  have hs := rem_small (M := M) (c := c) hv0 hv
  have h5 : rem M v (c + 1) < D * v * bb ^ c := (Nat.div_lt_iff_lt_mul (bb_pow_pos c)).1 h1
  have hY : tk (rem M v (c + 1)) D v c s < bb ^ (c + s + 1) := by unfold tk; have := dv_lt (c := c) hv hD; omega
  refine h.all (fun j _ hj => ?_) (fun j _ hj => ?_)
  · rw [tk_back h4 hv hD h2, h3, lim_top_add _ _ _ _ hj]
  · rw [lim_of_lt' hY hj, lim_of_lt' (Nat.lt_of_le_of_lt (rem_le M v c) hs) hj]
end
end Go.Proofs.YtpbegoflpfdajaaGreatDoor

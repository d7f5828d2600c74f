/- WHAT IS PROVED: contracts of functions of the numbers package and laws for them, used by the last text of this claim. CONDITIONS: stated at each theorem. -/
import Derived.Test.YtpbegoflpfdajaaGreatDoorN02
import Derived.Test.YtpbegoflpfdajaaGreatDoorN01
namespace Go.Proofs.YtpbegoflpfdajaaGreatDoor
open Go.RowKit

/-! what a call or a store elsewhere leaves -/
theorem range_keep {W w1 : World} {b o : Nat} {cs : List Value} (h : W.rangeAt b o cs) (hb : Below W.heap.size W w1) : w1.rangeAt b o cs := fun j v hv => by
  have hc := h j v hv
  rw [hb.cell (p := ⟨b, o + j, none⟩) (World.block_lt_of_cell? W _ hc)]; exact hc
theorem there_keep {W w1 : World} {b o n : Nat} (h : W.there b o n) (hb : Below W.heap.size W w1) : w1.there b o n := fun j hj => by
  obtain ⟨h1, h2⟩ := h j hj
  obtain ⟨u, hu⟩ := Option.isSome_iff_exists.1 h1
  have hlt := World.block_lt_of_cell? W _ hu
  rw [hb.cell (p := ⟨b, o + j, none⟩) hlt, hb.frozen (p := ⟨b, o + j, none⟩) hlt]; exact ⟨h1, h2⟩
theorem cell_keep {W w1 : World} {p : Addr} {v : Value} (h : W.cell? p = some v) (hb : Below W.heap.size W w1) : w1.cell? p = some v := by
  rw [hb.cell (World.block_lt_of_cell? W _ h)]; exact h
theorem range_setk {W : World} {b o : Nat} {cs : List Value} (h : W.rangeAt b o cs) {b2 o2 : Nat} {vs : List Value} (hne : b ≠ b2) : (W.setCells b2 o2 vs).rangeAt b o cs := World.rangeAt_setCells_apart h b2 o2 vs (Or.inl hne)
theorem there_setk {W : World} {b o n : Nat} (h : W.there b o n) {b2 o2 : Nat} {vs : List Value} (_hne : True) : (W.setCells b2 o2 vs).there b o n := World.there_setCells h b2 o2 vs
theorem cell_setk {W : World} {b o : Nat} {v : Value} (h : W.cell? ⟨b, o, none⟩ = some v) {b2 o2 : Nat} {vs : List Value} (hne : b ≠ b2) : (W.setCells b2 o2 vs).cell? ⟨b, o, none⟩ = some v := by
  rw [World.cell?_setCells_out b2 vs o2 W ⟨b, o, none⟩ (fun hb _ => absurd hb hne)]; exact h
theorem al_zb {ops : Array Oper} {rest : List Oper} {op : Oper} {a : Act} {w : World} {Q : Exit → Act → World → Prop} (t : TypeId) (z : Array Value) (b : Nat) (ho : op.guard = none ∧ op.op = .alloc t) (hb : b = w.heap.size) (hz : ∀ w, (zeroValue t).run Tryz.prog w = .ok (.agg z) w)
    (h : wpList Tryz.prog ops Q rest (a.put op.dst (.pointer (some ⟨b, 0, none⟩))) (w.alloc (.cells z t))) : wpList Tryz.prog ops Q (op :: rest) a w := by
  subst hb; exact al_z t z ho hz h
theorem run_next {P : Program} {s : Sem Value} {v : Value} {w : World} (h : s.run P w = .ok v w) : ((do pure (.value (← s))) : Sem Next).run P w = .ok (.value v) w := by
  simp [h, Result.andThen]
theorem splice_get (off : Nat) : ∀ (l : List Value) (k : Nat) (cs : Array Value), ∀ i : Nat, ((l.zipIdx k).foldl (fun cs (p : Value × Nat) => cs.setIfInBounds (off + p.2) p.1) cs)[i]? = if off + k ≤ i ∧ i < off + k + l.length ∧ i < cs.size then l[i - (off + k)]? else cs[i]?
  | [], k, cs, i => by simp; intro h1 h2; omega
  | v :: l, k, cs, i => by
    rw [List.zipIdx_cons, List.foldl_cons, splice_get off l (k + 1), Array.getElem?_setIfInBounds, Array.size_setIfInBounds]
    simp only [List.length_cons]
    by_cases h1 : off + k = i
    · subst h1
      rw [if_neg (by omega), if_pos rfl]
      by_cases h2 : off + k < cs.size
      · rw [if_pos h2, if_pos ⟨by omega, by omega, h2⟩]; simp
      · rw [if_neg h2, if_neg (by omega)]; simp; omega
    · rw [if_neg h1]
      by_cases h2 : off + (k + 1) ≤ i ∧ i < off + (k + 1) + l.length ∧ i < cs.size
      · rw [if_pos h2, if_pos ⟨by omega, by omega, h2.2.2⟩]
        rw [show i - (off + k) = (i - (off + (k + 1))) + 1 by omega, List.getElem?_cons_succ]
      · rw [if_neg h2, if_neg (by omega)]

/-- a part is laid into the cells -/
theorem splice (p q r l : List Value) (h : q.length = l.length) : (l.toArray.zipIdx.foldl (fun cs (x : Value × Nat) => cs.setIfInBounds (p.length + x.2) x.1) (p ++ q ++ r).toArray) = (p ++ l ++ r).toArray := by
  apply Array.ext_getElem?
  intro i
  rw [← Array.foldl_toList, Array.toList_zipIdx, splice_get]
  simp only [Nat.add_zero, List.getElem?_toArray, List.size_toArray, List.length_append]
  by_cases h1 : i < p.length
  · rw [if_neg (by omega), List.append_assoc, List.append_assoc, List.getElem?_append_left h1, List.getElem?_append_left h1]
  · by_cases h2 : i < p.length + l.length
    · rw [if_pos ⟨by omega, by omega, by omega⟩]
      rw [List.append_assoc, List.getElem?_append_right (by omega), List.getElem?_append_left (by omega)]
    · rw [if_neg (by omega)]
      rw [List.getElem?_append_right (by simp; omega), List.getElem?_append_right (by simp; omega)]
      simp [h]
theorem mapM88 (w : World) : (Array.mapM (fun (f : Field) => do let z ← Go.sizeOf f.type; pure (f.offset, z)) #[({ name := "magnitude", type := 86, offset := 0, embedded := true, tag := "", pkgPath := "entail/num", byteOffset := 0 } : Field), { name := "negative", type := 4, offset := 30, embedded := false, tag := "", pkgPath := "entail/num", byteOffset := 120 }] : Sem (Array (Nat × Nat))).run Tryz.prog w = .ok #[(0, 30), (30, 1)] w := by
  simp [Tryz.sizeOf86, Tryz.sizeOf4, Result.andThen]
theorem build88 (n : Nat) (s : Bool) (w : World) : (Instr.build 88 #[(0, .agg (mgL n).toArray), (1, .bool s)]).run Tryz.prog w = .ok (.agg (sgL n s).toArray) w := by
  unfold Instr.build
  rw [Sem.run_bind, z88, Result.andThen_ok]
  simp only [Sem.run_bind, run_underlying Tryz.underlying88, Result.andThen_ok]
  rw [mapM88, Result.andThen_ok]
  have h1 := splice [] (mgL 0) [.bool false] (mgL n) (by rw [mgL_len, mgL_len])
  have h2 := splice (mgL n) [.bool false] [] [.bool s] rfl
  simp only [List.nil_append, List.append_nil, List.length_nil, mgL_len] at h1 h2
  have e1 : (Value.agg (sgL 0 false).toArray).cells = (mgL 0 ++ [Value.bool false]).toArray := by unfold sgL; rfl
  have e2 : (Value.agg (mgL n).toArray).cells = (mgL n).toArray := rfl
  have e3 : (Value.bool s).cells = [Value.bool s].toArray := rfl
  have f : Instr.fill (fun x => [(0, 30), (30, 1)][x]?) (Value.agg (sgL 0 false).toArray).cells [(0, .agg (mgL n).toArray), (1, .bool s)] = some (sgL n s).toArray := by
    rw [e1]
    unfold Instr.fill
    simp only [List.getElem?_cons_zero, e2, mgL_size]
    rw [if_neg (by simp [mgL_len])]
    rw [h1]
    unfold Instr.fill
    simp only [List.getElem?_cons_succ, List.getElem?_cons_zero, e3]
    rw [if_neg (by simp [mgL_len])]
    rw [h2]
    unfold Instr.fill sgL
    rfl
  simp [f]
section
variable {op : Oper} {a : Act} {w : World} {K : Act → World → Prop} {Q : Exit → Act → World → Prop}
theorem wst86 (b o : Nat) (n : Nat) (ho : ∃ x y, op.op = .store 86 x y ∧ a.eval x = .pointer (some ⟨b, o, none⟩) ∧ a.eval y = .agg (mgL n).toArray)
    (ht : w.there b o 30) (h : K (a.put op.dst undef) (w.setCells b o (mgL n))) : op.wp Tryz.prog a w K Q :=
  let ⟨x, y, h1, h2, h3⟩ := ho; wp_store_mid 86 x y h1 b o _ h2 h3 (by rw [mgL_size]; exact ht) (by rw [mgL_size]; exact i86) (mgA_one n) h
theorem wst88 (b o : Nat) (n : Nat) (s : Bool) (ho : ∃ x y, op.op = .store 88 x y ∧ a.eval x = .pointer (some ⟨b, o, none⟩) ∧ a.eval y = .agg (sgL n s).toArray)
    (ht : w.there b o 31) (h : K (a.put op.dst undef) (w.setCells b o (sgL n s))) : op.wp Tryz.prog a w K Q :=
  let ⟨x, y, h1, h2, h3⟩ := ho; wp_store_mid 88 x y h1 b o _ h2 h3 (by rw [sgL_size]; exact ht) (by rw [sgL_size]; exact i88) (sgA_one n s) h
theorem wst115 (b o : Nat) (p : Nat) (s : Bool) (q : Nat) (t : Bool) (ho : ∃ x y, op.op = .store 115 x y ∧ a.eval x = .pointer (some ⟨b, o, none⟩) ∧ a.eval y = .agg (frL p s q t).toArray)
    (ht : w.there b o 62) (h : K (a.put op.dst undef) (w.setCells b o (frL p s q t))) : op.wp Tryz.prog a w K Q :=
  let ⟨x, y, h1, h2, h3⟩ := ho; wp_store_mid 115 x y h1 b o _ h2 h3 (by rw [frL_size]; exact ht) (by rw [frL_size]; exact i115) (frA_one p s q t) h
theorem yld84 {ops : Array Oper} {S : World → Prop} (b o : Nat) (n : Nat) (hw : Region.wanted op (yielded ops a.tmps) = true) (ho : ∃ x, op.op = .load 84 x ∧ a.eval x = .pointer (some ⟨b, o, none⟩))
    (hc : ∀ w, S w → w.rangeAt b o (mgL n)) : YieldsIf Tryz.prog ops S op (.agg (mgL n).toArray) a :=
  let ⟨x, h1, h2⟩ := ho; yieldsIf_load_mid hw 84 x h1 b o h2 (mgL n) _ hc Tryz.underlying84 rfl (by rw [mgL_len]; exact i84)
theorem yld86 {ops : Array Oper} {S : World → Prop} (b o : Nat) (n : Nat) (hw : Region.wanted op (yielded ops a.tmps) = true) (ho : ∃ x, op.op = .load 86 x ∧ a.eval x = .pointer (some ⟨b, o, none⟩))
    (hc : ∀ w, S w → w.rangeAt b o (mgL n)) : YieldsIf Tryz.prog ops S op (.agg (mgL n).toArray) a :=
  let ⟨x, h1, h2⟩ := ho; yieldsIf_load_mid hw 86 x h1 b o h2 (mgL n) _ hc Tryz.underlying86 rfl (by rw [mgL_len]; exact i86)
theorem yld88 {ops : Array Oper} {S : World → Prop} (b o : Nat) (n : Nat) (s : Bool) (hw : Region.wanted op (yielded ops a.tmps) = true) (ho : ∃ x, op.op = .load 88 x ∧ a.eval x = .pointer (some ⟨b, o, none⟩))
    (hc : ∀ w, S w → w.rangeAt b o (sgL n s)) : YieldsIf Tryz.prog ops S op (.agg (sgL n s).toArray) a :=
  let ⟨x, h1, h2⟩ := ho; yieldsIf_load_mid hw 88 x h1 b o h2 (sgL n s) _ hc Tryz.underlying88 rfl (by rw [sgL_len]; exact i88)
theorem yld115 {ops : Array Oper} {S : World → Prop} (b o : Nat) (p : Nat) (s : Bool) (q : Nat) (t : Bool) (hw : Region.wanted op (yielded ops a.tmps) = true) (ho : ∃ x, op.op = .load 115 x ∧ a.eval x = .pointer (some ⟨b, o, none⟩))
    (hc : ∀ w, S w → w.rangeAt b o (frL p s q t)) : YieldsIf Tryz.prog ops S op (.agg (frL p s q t).toArray) a :=
  let ⟨x, h1, h2⟩ := ho; yieldsIf_load_mid hw 115 x h1 b o h2 (frL p s q t) _ hc Tryz.underlying115 rfl (by rw [frL_len]; exact i115)
end
theorem yb88 {ops : Array Oper} {S : World → Prop} {op : Oper} {a : Act} (n : Nat) (s : Bool) (x y : Operand) (hw : Region.wanted op (yielded ops a.tmps) = true) (ho : op.op = .build 88 #[(0, x), (1, y)]) (hx : a.eval x = .agg (mgL n).toArray) (hy : a.eval y = .bool s) :
    YieldsIf Tryz.prog ops S op (.agg (sgL n s).toArray) a := Or.inl ⟨hw, fun w _ => by
  have h := run_next (build88 n s w)
  unfold execOp
  simp only [ho]
  simpa [hx, hy] using h⟩
end Go.Proofs.YtpbegoflpfdajaaGreatDoor

namespace Go.Proofs.YtpbegoflpfdajaaGreatDoor
open Go.RowKit

set_option maxHeartbeats 1000000 in
theorem number_f (n : Nat) (hn : n < bb ^ 30) (w : World) :
    Calls Tryz.prog 93 #[.agg (mgL n).toArray, .bool false] w fun e w' => e = .returned (.agg (sgL n (false)).toArray) ∧ Below w.heap.size w w' := by
  have Hn := Lib.hid hn; clear hn
  have Hr := Lib.hid (show ((w.alloc (.cells (mgL n).toArray 86)).alloc (.cells (sgL 0 false).toArray 88)).rangeAt w.heap.size 0 (mgL n) from World.rangeAt_alloc (range_new w _ 86) _)
  have Ht := Lib.hid (show ((w.alloc (.cells (mgL n).toArray 86)).alloc (.cells (sgL 0 false).toArray 88)).there (w.heap.size + 1) 0 31 from there_at (by simp) _ _ (by rw [sgL_len]))
  have Hb := Lib.hid (show Below w.heap.size w ((w.alloc (.cells (mgL n).toArray 86)).alloc (.cells (sgL 0 false).toArray 88)) from ((Below.refl w.heap.size w).alloc (Nat.le_refl _) _).alloc (by simp) _)
  go_enter Tryz.func93, Tryz.ntmps93
  go_wp2_with (first | ((with_reducible refine al_zb 88 _ (w.heap.size + 1) ?_ ?_ z88 ?_); (· exact ⟨rfl, rfl⟩); · simp))
  refine wp_region_held_drew (S := (fun w' => Below w.heap.size w w' ∧ w'.rangeAt w.heap.size 0 (mgL n) ∧ w'.there (w.heap.size + 1) 0 31)) (by kernel_rfl) ?_ (fun hH => ?_)
  · exact ⟨Hb.out.drew, Hr.out, Ht.out⟩
  try dsimp only at hH
  refine wpAnyH_take (i := 0) (v := (.agg (mgL n).toArray)) rfl (by kernel_rfl) (by kernel_rfl) (by kernel_rfl) (fun _ _ _ h => h) (yld86 w.heap.size 0 n rfl ⟨_, rfl, rfl⟩ (fun wz hz => hz.2.1)) hH ?_
  try simp only [Act.put, List.getElem_toArray, List.getElem_cons_zero, List.setIfInBounds_toArray, List.set_cons_zero, List.set_cons_succ]
  refine wpAnyH_take (i := 1) (v := .bool false) rfl (by kernel_rfl) (by kernel_rfl) (by kernel_rfl) (fun _ _ _ h => h) (Or.inl ⟨by rfl, fun wz hz => by skip; go_simp⟩) hH ?_
  try simp only [Act.put, List.getElem_toArray, List.getElem_cons_succ, List.getElem_cons_zero, List.setIfInBounds_toArray, List.set_cons_zero, List.set_cons_succ]
  refine wpAnyH_take (i := 2) (v := .bool false) rfl (by kernel_rfl) (by kernel_rfl) (by kernel_rfl) (fun _ _ _ h => h) (Or.inl ⟨by rfl, fun wz hz => by skip; go_simp⟩) hH ?_
  try simp only [Act.put, List.getElem_toArray, List.getElem_cons_succ, List.getElem_cons_zero, List.setIfInBounds_toArray, List.set_cons_zero, List.set_cons_succ]
  refine wpAnyH_take (i := 3) (v := undef) rfl (by kernel_rfl) (by kernel_rfl) (by kernel_rfl) (fun _ _ _ h => h) (Or.inr ⟨by rfl, rfl⟩) hH ?_
  try simp only [Act.put, List.getElem_toArray, List.getElem_cons_succ, List.getElem_cons_zero, List.setIfInBounds_toArray, List.set_cons_zero, List.set_cons_succ]
  refine wpAnyH_take (i := 4) (v := undef) rfl (by kernel_rfl) (by kernel_rfl) (by kernel_rfl) (fun _ _ _ h => h) (Or.inr ⟨by rfl, rfl⟩) hH ?_
  try simp only [Act.put, List.getElem_toArray, List.getElem_cons_succ, List.getElem_cons_zero, List.setIfInBounds_toArray, List.set_cons_zero, List.set_cons_succ]
  refine wpAnyH_take (i := 5) (v := undef) rfl (by kernel_rfl) (by kernel_rfl) (by kernel_rfl) (fun _ _ _ h => h) (Or.inr ⟨by rfl, rfl⟩) hH ?_
  try simp only [Act.put, List.getElem_toArray, List.getElem_cons_succ, List.getElem_cons_zero, List.setIfInBounds_toArray, List.set_cons_zero, List.set_cons_succ]
  refine wpAnyH_take (i := 6) (v := .bool false) rfl (by kernel_rfl) (by kernel_rfl) (by kernel_rfl) (fun _ _ _ h => h) (Or.inl ⟨by rfl, fun wz hz => by skip; go_simp⟩) hH ?_
  try simp only [Act.put, List.getElem_toArray, List.getElem_cons_succ, List.getElem_cons_zero, List.setIfInBounds_toArray, List.set_cons_zero, List.set_cons_succ]
  refine wpAnyH_take (i := 7) (v := (.agg (sgL n (false)).toArray)) rfl (by kernel_rfl) (by kernel_rfl) (by kernel_rfl) (fun _ _ _ h => h) (yb88 n false _ _ rfl rfl rfl rfl) hH ?_
  try simp only [Act.put, List.getElem_toArray, List.getElem_cons_succ, List.getElem_cons_zero, List.setIfInBounds_toArray, List.set_cons_zero, List.set_cons_succ]
  refine wpAnyH_ready (rs := [8]) (by kernel_rfl) (by simp) ?_
  refine AllReadyH.cons rfl (fun K hK => ?_) AllReadyH.nil
  simp only [List.getElem_toArray, List.getElem_cons_succ, List.getElem_cons_zero]
  rw [if_pos (by rfl)]
  with_reducible refine wst88 (w.heap.size + 1) 0 n (false) ?_ hH.2.2 ?_
  · exact ⟨_, _, rfl, rfl, rfl⟩
  refine hK.out _ _ ?_ (fun hH1 => ?_)
  · exact ⟨below_set hH.1 (by omega) _ _, range_setk hH.2.1 (by first | trivial | omega), there_setk hH.2.2 (by first | trivial | omega)⟩
  clear hK K
  try simp only [Act.put]
  refine wpAnyH_done (by kernel_rfl) ?_ _
  go_wp2
  refine ret88 Tryz.results93 (w.heap.size + 1) 0 rfl n (false) (range_set hH.2.2 (by rw [sgL_len])) rfl ⟨rfl, hH1.1⟩

set_option maxHeartbeats 1000000 in
theorem number_t (n : Nat) (hn : n < bb ^ 30) (w : World) :
    Calls Tryz.prog 93 #[.agg (mgL n).toArray, .bool true] w fun e w' => e = .returned (.agg (sgL n (!decide (n = 0))).toArray) ∧ Below w.heap.size w w' := by
  have Hn := Lib.hid hn; clear hn
  have Hr := Lib.hid (show ((w.alloc (.cells (mgL n).toArray 86)).alloc (.cells (sgL 0 false).toArray 88)).rangeAt w.heap.size 0 (mgL n) from World.rangeAt_alloc (range_new w _ 86) _)
  have Ht := Lib.hid (show ((w.alloc (.cells (mgL n).toArray 86)).alloc (.cells (sgL 0 false).toArray 88)).there (w.heap.size + 1) 0 31 from there_at (by simp) _ _ (by rw [sgL_len]))
  have Hb := Lib.hid (show Below w.heap.size w ((w.alloc (.cells (mgL n).toArray 86)).alloc (.cells (sgL 0 false).toArray 88)) from ((Below.refl w.heap.size w).alloc (Nat.le_refl _) _).alloc (by simp) _)
  go_enter Tryz.func93, Tryz.ntmps93
  go_wp2_with (first | ((with_reducible refine al_zb 88 _ (w.heap.size + 1) ?_ ?_ z88 ?_); (· exact ⟨rfl, rfl⟩); · simp))
  refine wp_region_held_drew (S := (fun w' => Below w.heap.size w w' ∧ w'.rangeAt w.heap.size 0 (mgL n) ∧ w'.there (w.heap.size + 1) 0 31)) (by kernel_rfl) ?_ (fun hH => ?_)
  · exact ⟨Hb.out.drew, Hr.out, Ht.out⟩
  try dsimp only at hH
  refine wpAnyH_take (i := 0) (v := (.agg (mgL n).toArray)) rfl (by kernel_rfl) (by kernel_rfl) (by kernel_rfl) (fun _ _ _ h => h) (yld86 w.heap.size 0 n rfl ⟨_, rfl, rfl⟩ (fun wz hz => hz.2.1)) hH ?_
  try simp only [Act.put, List.getElem_toArray, List.getElem_cons_zero, List.setIfInBounds_toArray, List.set_cons_zero, List.set_cons_succ]
  refine wpAnyH_take (i := 1) (v := .bool true) rfl (by kernel_rfl) (by kernel_rfl) (by kernel_rfl) (fun _ _ _ h => h) (Or.inl ⟨by rfl, fun wz hz => by skip; go_simp⟩) hH ?_
  try simp only [Act.put, List.getElem_toArray, List.getElem_cons_succ, List.getElem_cons_zero, List.setIfInBounds_toArray, List.set_cons_zero, List.set_cons_succ]
  refine wpAnyH_take (i := 2) (v := .bool true) rfl (by kernel_rfl) (by kernel_rfl) (by kernel_rfl) (fun _ _ _ h => h) (Or.inl ⟨by rfl, fun wz hz => by skip; go_simp⟩) hH ?_
  try simp only [Act.put, List.getElem_toArray, List.getElem_cons_succ, List.getElem_cons_zero, List.setIfInBounds_toArray, List.set_cons_zero, List.set_cons_succ]
  refine wpAnyH_take (i := 3) (v := (.agg (mgL n).toArray)) rfl (by kernel_rfl) (by kernel_rfl) (by kernel_rfl) (fun _ _ _ h => h) (yld86 w.heap.size 0 n rfl ⟨_, rfl, rfl⟩ (fun wz hz => hz.2.1)) hH ?_
  try simp only [Act.put, List.getElem_toArray, List.getElem_cons_succ, List.getElem_cons_zero, List.setIfInBounds_toArray, List.set_cons_zero, List.set_cons_succ]
  refine wpAnyH_ready (rs := [4]) (by kernel_rfl) (by simp) ?_
  refine AllReadyH.cons rfl (fun K hK => ?_) AllReadyH.nil
  simp only [List.getElem_toArray, List.getElem_cons_succ, List.getElem_cons_zero]
  rw [if_pos (by rfl)]
  go_simp
  refine (isZero_any n Hn.out _).mono ?_; rintro e w1 ⟨rfl, hb1⟩
  try simp only []
  refine hK.out _ _ ?_ (fun hH1 => ?_)
  · exact ⟨(hH.1).trans (hb1.mono (hH.1).size), range_keep hH.2.1 hb1, there_keep hH.2.2 hb1⟩
  clear hK K
  try simp only [Act.put, List.getElem_toArray, List.getElem_cons_succ, List.getElem_cons_zero, List.setIfInBounds_toArray, List.set_cons_zero, List.set_cons_succ]
  refine wpAnyH_take (i := 5) (v := (.bool (!decide (n = 0)))) rfl (by kernel_rfl) (by kernel_rfl) (by kernel_rfl) (fun _ _ _ h => h) (Or.inl ⟨by rfl, fun wz hz => by skip; go_simp⟩) hH1 ?_
  try simp only [Act.put, List.getElem_toArray, List.getElem_cons_succ, List.getElem_cons_zero, List.setIfInBounds_toArray, List.set_cons_zero, List.set_cons_succ]
  refine wpAnyH_take (i := 6) (v := (.bool (!decide (n = 0)))) rfl (by kernel_rfl) (by kernel_rfl) (by kernel_rfl) (fun _ _ _ h => h) (Or.inl ⟨by rfl, fun wz hz => by skip; go_simp⟩) hH1 ?_
  try simp only [Act.put, List.getElem_toArray, List.getElem_cons_succ, List.getElem_cons_zero, List.setIfInBounds_toArray, List.set_cons_zero, List.set_cons_succ]
  refine wpAnyH_take (i := 7) (v := (.agg (sgL n (!decide (n = 0))).toArray)) rfl (by kernel_rfl) (by kernel_rfl) (by kernel_rfl) (fun _ _ _ h => h) (yb88 n (!decide (n = 0)) _ _ rfl rfl rfl rfl) hH1 ?_
  try simp only [Act.put, List.getElem_toArray, List.getElem_cons_succ, List.getElem_cons_zero, List.setIfInBounds_toArray, List.set_cons_zero, List.set_cons_succ]
  refine wpAnyH_ready (rs := [8]) (by kernel_rfl) (by simp) ?_
  refine AllReadyH.cons rfl (fun K hK => ?_) AllReadyH.nil
  simp only [List.getElem_toArray, List.getElem_cons_succ, List.getElem_cons_zero]
  rw [if_pos (by rfl)]
  with_reducible refine wst88 (w.heap.size + 1) 0 n (!decide (n = 0)) ?_ hH1.2.2 ?_
  · exact ⟨_, _, rfl, rfl, rfl⟩
  refine hK.out _ _ ?_ (fun hH2 => ?_)
  · exact ⟨below_set hH1.1 (by omega) _ _, range_setk hH1.2.1 (by first | trivial | omega), there_setk hH1.2.2 (by first | trivial | omega)⟩
  clear hK K
  try simp only [Act.put]
  refine wpAnyH_done (by kernel_rfl) ?_ _
  go_wp2
  refine ret88 Tryz.results93 (w.heap.size + 1) 0 rfl n (!decide (n = 0)) (range_set hH1.2.2 (by rw [sgL_len])) rfl ⟨rfl, hH2.1⟩
end Go.Proofs.YtpbegoflpfdajaaGreatDoor

/- Plain arithmetic: decimal digits and limbs. -/
namespace Go.Proofs.YtpbegoflpfdajaaGreatDoor

theorem bb_ten : bb = 10 ^ 9 := rfl
theorem ten_pow (p : Nat) : 10 ^ p = bb ^ (p / 9) * 10 ^ (p % 9) := by
  rw [bb_ten, ← Nat.pow_mul, ← Nat.pow_add, Nat.div_add_mod]
/-- a digit is laid beside those above it -/
theorem lim_digit (v d p j : Nat) (hd : d < 10) :
    lim (v * 10 ^ (p + 1) + d * 10 ^ p) j = if j = p / 9 then lim (v * 10 ^ (p + 1)) j + d * 10 ^ (p % 9) else lim (v * 10 ^ (p + 1)) j := by
  obtain ⟨q, hq⟩ : ∃ q, p / 9 = q := ⟨_, rfl⟩
  obtain ⟨r, hr⟩ : ∃ r, p % 9 = r := ⟨_, rfl⟩
  have hr9 : r < 9 := by omega
  have e0 : 10 ^ p = bb ^ q * 10 ^ r := by rw [ten_pow, hq, hr]
  obtain ⟨c, hc⟩ : ∃ c, 8 - r = c := ⟨_, rfl⟩
  have eB : bb = 10 ^ (r + 1) * 10 ^ c := by rw [bb_ten, ← Nat.pow_add]; congr 1; omega
  have ed : d * 10 ^ r < 10 ^ (r + 1) := by rw [Nat.pow_succ, Nat.mul_comm]; exact Nat.mul_lt_mul_of_pos_left hd (Nat.pow_pos (by omega))
  have e1 : v * 10 ^ (p + 1) = bb ^ q * (10 ^ (r + 1) * v) := by
    rw [Nat.pow_succ, e0, Nat.pow_succ]; simp only [Nat.mul_comm, Nat.mul_left_comm]
  have e2 : v * 10 ^ (p + 1) + d * 10 ^ p = bb ^ q * (10 ^ (r + 1) * v + d * 10 ^ r) := by
    rw [e1, e0, Nat.mul_add]; congr 1; simp only [Nat.mul_left_comm]
  rw [e2, e1, hq, hr]
  unfold lim
  by_cases h1 : j = q
  · subst h1
    rw [if_pos rfl, Nat.mul_div_cancel_left _ (bb_pow_pos _), Nat.mul_div_cancel_left _ (bb_pow_pos _), eB, Nat.mod_mul, Nat.mod_mul, Nat.mul_add_mod, Nat.mod_eq_of_lt ed, Nat.mul_mod_right,
      Nat.mul_add_div (Nat.pow_pos (by omega)), Nat.div_eq_of_lt ed, Nat.mul_div_cancel_left _ (Nat.pow_pos (by omega))]
    simp only [Nat.add_zero]
    omega
  · rw [if_neg h1]
    by_cases h2 : j < q
    · obtain ⟨t, ht⟩ : ∃ t, q = j + 1 + t := ⟨q - (j + 1), by omega⟩
      have : ∀ x, bb ^ q * x / bb ^ j % bb = 0 := by
        intro x
        rw [ht, Nat.pow_add, Nat.pow_succ, Nat.mul_assoc, Nat.mul_assoc, Nat.mul_div_cancel_left _ (bb_pow_pos _), Nat.mul_mod_right]
      rw [this, this]
    · obtain ⟨t, ht⟩ : ∃ t, j = q + (t + 1) := ⟨j - q - 1, by omega⟩
      have hB : bb ^ (t + 1) = 10 ^ (r + 1) * (10 ^ c * bb ^ t) := by rw [Nat.pow_succ, Nat.mul_comm]; conv => lhs; rw [show bb * bb ^ t = (10 ^ (r + 1) * 10 ^ c) * bb ^ t by rw [← eB]]
                                                                      rw [Nat.mul_assoc]
      have : ∀ x, bb ^ q * x / bb ^ j = x / bb ^ (t + 1) := by
        intro x; rw [ht, Nat.pow_add, ← Nat.div_div_eq_div_mul, Nat.mul_div_cancel_left _ (bb_pow_pos _)]
      have k1 : (10 ^ (r + 1) * v + d * 10 ^ r) / (10 ^ (r + 1) * (10 ^ c * bb ^ t)) = v / (10 ^ c * bb ^ t) := by
        rw [← Nat.div_div_eq_div_mul, Nat.mul_add_div (Nat.pow_pos (by omega)), Nat.div_eq_of_lt ed, Nat.add_zero]
      have k2 : 10 ^ (r + 1) * v / (10 ^ (r + 1) * (10 ^ c * bb ^ t)) = v / (10 ^ c * bb ^ t) := by
        rw [← Nat.div_div_eq_div_mul, Nat.mul_div_cancel_left _ (Nat.pow_pos (by omega))]
      rw [this, this, hB, k1, k2]

/-- the value of a list of digits (as bytes) -/
def valL (l : List UInt8) : Nat := l.foldl (fun v c => v * 10 + (c.toNat - 48)) 0
theorem valL_snoc (l : List UInt8) (c : UInt8) : valL (l ++ [c]) = valL l * 10 + (c.toNat - 48) := by simp [valL]
theorem valL_nil : valL [] = 0 := rfl
def isDig (c : UInt8) : Bool := decide (48 ≤ c.toNat ∧ c.toNat ≤ 57)
theorem valL_take_lt (l : List UInt8) (h : ∀ c ∈ l, isDig c = true) : ∀ k, k ≤ l.length → valL (l.take k) < 10 ^ k
  | 0, _ => by simp [valL]
  | k + 1, hk => by
    have h1 := valL_take_lt l h k (by omega)
    have hc := h l[k] (List.getElem_mem _)
    simp only [isDig, decide_eq_true_eq] at hc
    rw [List.take_succ_eq_append_getElem (by omega), valL_snoc, Nat.pow_succ]
    omega
theorem valL_lt (l : List UInt8) (h : ∀ c ∈ l, isDig c = true) : valL l < 10 ^ l.length := by
  have := valL_take_lt l h l.length (Nat.le_refl _)
  rwa [List.take_length] at this
/-- what has been read of l when k digits have been -/
def preV (l : List UInt8) (k : Nat) : Nat := valL (l.take k) * 10 ^ (l.length - k)
theorem preV_zero (l : List UInt8) : preV l 0 = 0 := by simp [preV, valL]
theorem preV_all (l : List UInt8) : preV l l.length = valL l := by simp [preV]
theorem preV_succ (l : List UInt8) (k : Nat) (h : k < l.length) : preV l (k + 1) = preV l k + (l[k].toNat - 48) * 10 ^ (l.length - 1 - k) ∧ preV l k = valL (l.take k) * 10 ^ (l.length - 1 - k + 1) := by
  have e : l.length - k = l.length - 1 - k + 1 := by omega
  unfold preV
  refine ⟨?_, by rw [e]⟩
  rw [List.take_succ_eq_append_getElem h, valL_snoc, e, show l.length - (k + 1) = l.length - 1 - k by omega, Nat.pow_succ, Nat.add_mul]
  congr 1
  rw [Nat.mul_assoc, Nat.mul_comm 10]
theorem lim_preV (l : List UInt8) (k : Nat) (h : k < l.length) (hd : isDig l[k] = true) (j : Nat) :
    lim (preV l (k + 1)) j = if j = (l.length - 1 - k) / 9 then lim (preV l k) j + (l[k].toNat - 48) * 10 ^ ((l.length - 1 - k) % 9) else lim (preV l k) j := by
  obtain ⟨e1, e2⟩ := preV_succ l k h
  rw [e1, e2]
  simp only [isDig, decide_eq_true_eq] at hd
  exact lim_digit _ _ _ _ (by omega)
end Go.Proofs.YtpbegoflpfdajaaGreatDoor

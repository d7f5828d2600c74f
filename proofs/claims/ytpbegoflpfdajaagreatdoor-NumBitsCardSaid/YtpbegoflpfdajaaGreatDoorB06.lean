/- WHAT IS PROVED: contracts of functions of the numbers package and laws for them, used by the last text of this claim. CONDITIONS: stated at each theorem. -/
import Derived.Test.YtpbegoflpfdajaaGreatDoorB05
namespace Go.Proofs.YtpbegoflpfdajaaGreatDoor
section
open Go.RowKit
theorem cell_sg {w : World} {b n : Nat} {s : Bool} (h : w.rangeAt b 0 (sgL n s)) : w.cell? ⟨b,30,none⟩ = some (.bool s):=(range_sg h).2
theorem fill2 (sz : Nat) (Z l1 l2 : List Value) (hZ : Z.length = 2 * sz) (h1 : l1.length = sz) (h2 : l2.length = sz) :
    Instr.fill (fun i=>some (i * sz,sz)) Z.toArray [(0,.agg l1.toArray),(1,.agg l2.toArray)] = some (l1 ++ l2).toArray:=by
  have e1 : (Value.agg l1.toArray).cells = l1.toArray:=rfl
  have e2 : (Value.agg l2.toArray).cells = l2.toArray:=rfl
  have s1:=splice [] (Z.take sz) (Z.drop sz) l1 (by simp;omega)
  have s2:=splice l1 (Z.drop sz) [] l2 (by simp;omega)
  simp only [List.nil_append,List.append_nil,List.length_nil,List.take_append_drop] at s1 s2
  unfold Instr.fill
  simp only [e1,Nat.zero_mul]
  rw [if_neg (by simp;omega)]
  rw [s1]
  unfold Instr.fill
  simp only [e2,Nat.one_mul]
  rw [if_neg (by simp;omega)]
  rw [h1] at s2
  rw [s2]
  unfold Instr.fill
  rfl
theorem run_bs (t e : TypeId) (sz : Nat) (l1 l2 : List Value) (z : Value) (hu : Tryz.prog.underlying t = some (.slice e)) (hs : ∀ w,(Go.sizeOf e).run Tryz.prog w = .ok sz w) (hz : ∀ w,(zeroValue e).run Tryz.prog w = .ok z w) (hsz : 0 < sz) (hsz2 : sz < 1000) (h1 : l1.length = sz) (h2 : l2.length = sz) (w : World) :
    (Instr.buildSlice t 2 #[(0,.agg l1.toArray),(1,.agg l2.toArray)]).run Tryz.prog w = .ok (.slice (some ⟨w.heap.size,0,none⟩) 2 2) (w.alloc (.cells (l1 ++ l2).toArray e)):=by
  unfold Instr.buildSlice
  simp only [Sem.run_bind,run_underlying hu,Result.andThen_ok,hs]
  rw [if_neg (by omega)]
  try simp only [Sem.run_bind,Sem.run_pure,Result.andThen_ok]
  rw [if_neg (by omega)]
  simp only [Sem.run_bind,hz,Sem.run_pure,Result.andThen_ok]
  have hf:=fill2 sz ((Array.range (2 * sz)).map (fun x=>z.cells[x % z.cells.size]!)).toList l1 l2 (by simp) h1 h2
  simp only [Array.toArray_toList] at hf
  rw [hf]
  simp [newRow,Result.andThen]
section
variable {ops : Array Oper} {rest : List Oper} {op : Oper} {a : Act} {w : World} {Q : Exit->Act->World->Prop}
theorem bs197 (p q b : Nat) (ho : op.guard = none/\∃ x y,op.op = .buildSlice 197 2 #[(0,x),(1,y)]/\a.eval x = .agg (mgL p).toArray/\a.eval y = .agg (mgL q).toArray) (hb : b = w.heap.size)
    (h : wpList Tryz.prog ops Q rest (a.put op.dst (.slice (some ⟨b,0,none⟩) 2 2)) (w.alloc (.cells (mgL p ++ mgL q).toArray 86))) : wpList Tryz.prog ops Q (op :: rest) a w:=by
  subst hb
  obtain ⟨hg,x,y,h1,hx,hy⟩:=ho
  refine wpList_plain hg fun K hK=>?_
  have hr:=run_bs 197 86 30 (mgL p) (mgL q) _ Tryz.underlying197 Tryz.sizeOf86 z86 (by omega) (by omega) (mgL_len p) (mgL_len q) w
  unfold Oper.wp execOp
  simp only [h1]
  have hm : (#[(0,x),(1,y)].map fun (i,x)=>(i,a.eval x)) = #[(0,Value.agg (mgL p).toArray),(1,Value.agg (mgL q).toArray)]:=by simp [hx,hy]
  simp [hx,hy,hr,Result.andThen,Oper.upon]
  exact hK _ _ h
theorem bs171 (p q : Nat) (s t : Bool) (b : Nat) (ho : op.guard = none/\∃ x y,op.op = .buildSlice 171 2 #[(0,x),(1,y)]/\a.eval x = .agg (sgL p s).toArray/\a.eval y = .agg (sgL q t).toArray) (hb : b = w.heap.size)
    (h : wpList Tryz.prog ops Q rest (a.put op.dst (.slice (some ⟨b,0,none⟩) 2 2)) (w.alloc (.cells (sgL p s ++ sgL q t).toArray 88))) : wpList Tryz.prog ops Q (op :: rest) a w:=by
  subst hb
  obtain ⟨hg,x,y,h1,hx,hy⟩:=ho
  refine wpList_plain hg fun K hK=>?_
  have hr:=run_bs 171 88 31 (sgL p s) (sgL q t) _ Tryz.underlying171 Tryz.sizeOf88 z88 (by omega) (by omega) (sgL_len p s) (sgL_len q t) w
  unfold Oper.wp execOp
  simp only [h1]
  simp [hx,hy,hr,Result.andThen,Oper.upon]
  exact hK _ _ h
end
set_option maxHeartbeats 2000000 in
theorem timesS_any (n1 n2 : Nat) (s1 s2 : Bool) (h1 : n1 < bb ^ 30) (h2 : n2 < bb ^ 30) (h3 : n1 * n2 < bb ^ 30) (w : World) :
    Calls Tryz.prog 83 #[.agg (sgL n1 s1).toArray,.agg (sgL n2 s2).toArray] w fun e w'=>e = .returned (.agg (sgL (n1 * n2) ((s1 != s2) && !decide (n1 * n2 = 0))).toArray)/\Below w.heap.size w w':=by
  have H1:=Lib.hid h1;have H2:=Lib.hid h2;have H3:=Lib.hid h3
  clear h1 h2 h3
  have Hb:=Lib.hid (show Below w.heap.size w (((w.alloc (.cells (sgL n1 s1).toArray 88)).alloc (.cells (sgL n2 s2).toArray 88)).alloc (.cells (sgL 0 false).toArray 88)) from (((Below.refl w.heap.size w).alloc (Nat.le_refl _) _).alloc (by simp) _).alloc (by simp;omega) _)
  have Hr1:=Lib.hid (show (((w.alloc (.cells (sgL n1 s1).toArray 88)).alloc (.cells (sgL n2 s2).toArray 88)).alloc (.cells (sgL 0 false).toArray 88)).rangeAt w.heap.size 0 (sgL n1 s1) from World.rangeAt_alloc (World.rangeAt_alloc (range_new w _ 88) _) _)
  have Hr2:=Lib.hid (show (((w.alloc (.cells (sgL n1 s1).toArray 88)).alloc (.cells (sgL n2 s2).toArray 88)).alloc (.cells (sgL 0 false).toArray 88)).rangeAt (w.heap.size + 1) 0 (sgL n2 s2) from World.rangeAt_alloc (range_at (by simp) _ 88) _)
  have Ht:=Lib.hid (show (((w.alloc (.cells (sgL n1 s1).toArray 88)).alloc (.cells (sgL n2 s2).toArray 88)).alloc (.cells (sgL 0 false).toArray 88)).there (w.heap.size + 2) 0 31 from there_at (by simp) _ 88 (by rw [sgL_len]))
  go_enter Tryz.func83,Tryz.ntmps83
  go_wp2_with (first
    | ((with_reducible refine al_zb 88 _ (w.heap.size + 2) ?_ ?_ z88 ?_);(· exact ⟨rfl,rfl⟩);· (simp;done)))
  refine wp_region_held_drew (S:=(fun w'=>Below w.heap.size w w'/\w'.rangeAt w.heap.size 0 (sgL n1 s1)/\w'.rangeAt (w.heap.size + 1) 0 (sgL n2 s2)/\w'.there (w.heap.size + 2) 0 31)) (by kernel_rfl) ?_ (fun hH=>?_)
  · exact ⟨Hb.out.drew,Hr1.out,Hr2.out,Ht.out⟩
  try dsimp only at hH
  refine wpAnyH_take (i:=0) (v:=(.pointer (some ⟨w.heap.size,0,none⟩))) rfl (by kernel_rfl) (by kernel_rfl) (by kernel_rfl) (fun _ _ _ h=>h) (Or.inl ⟨by rfl,fun wz hz=>by skip;go_simp⟩) hH ?_
  try simp only [Act.put,List.getElem_toArray,List.getElem_cons_zero,List.setIfInBounds_toArray,List.set_cons_zero,List.set_cons_succ]
  refine wpAnyH_take (i:=1) (v:=(.agg (mgL n1).toArray)) rfl (by kernel_rfl) (by kernel_rfl) (by kernel_rfl) (fun _ _ _ h=>h) (yld86 w.heap.size 0 n1 rfl ⟨_,rfl,rfl⟩ (fun wz hz=>(range_sg hz.2.1).1)) hH ?_
  try simp only [Act.put,List.getElem_toArray,List.getElem_cons_succ,List.getElem_cons_zero,List.setIfInBounds_toArray,List.set_cons_zero,List.set_cons_succ]
  refine wpAnyH_take (i:=2) (v:=(.pointer (some ⟨(w.heap.size + 1),0,none⟩))) rfl (by kernel_rfl) (by kernel_rfl) (by kernel_rfl) (fun _ _ _ h=>h) (Or.inl ⟨by rfl,fun wz hz=>by skip;go_simp⟩) hH ?_
  try simp only [Act.put,List.getElem_toArray,List.getElem_cons_succ,List.getElem_cons_zero,List.setIfInBounds_toArray,List.set_cons_zero,List.set_cons_succ]
  refine wpAnyH_take (i:=3) (v:=(.agg (mgL n2).toArray)) rfl (by kernel_rfl) (by kernel_rfl) (by kernel_rfl) (fun _ _ _ h=>h) (yld86 (w.heap.size + 1) 0 n2 rfl ⟨_,rfl,rfl⟩ (fun wz hz=>(range_sg hz.2.2.1).1)) hH ?_
  try simp only [Act.put,List.getElem_toArray,List.getElem_cons_succ,List.getElem_cons_zero,List.setIfInBounds_toArray,List.set_cons_zero,List.set_cons_succ]
  refine wpAnyH_take (i:=5) (v:=(.pointer (some ⟨w.heap.size,30,none⟩))) rfl (by kernel_rfl) (by kernel_rfl) (by kernel_rfl) (fun _ _ _ h=>h) (Or.inl ⟨by rfl,fun wz hz=>by skip;go_simp⟩) hH ?_
  try simp only [Act.put,List.getElem_toArray,List.getElem_cons_succ,List.getElem_cons_zero,List.setIfInBounds_toArray,List.set_cons_zero,List.set_cons_succ]
  refine wpAnyH_take (i:=6) (v:=(.bool s1)) rfl (by kernel_rfl) (by kernel_rfl) (by kernel_rfl) (fun _ _ _ h=>h) (Or.inl ⟨by rfl,fun wz hz=>by have hc:=cell_sg hz.2.1;go_simp⟩) hH ?_
  try simp only [Act.put,List.getElem_toArray,List.getElem_cons_succ,List.getElem_cons_zero,List.setIfInBounds_toArray,List.set_cons_zero,List.set_cons_succ]
  refine wpAnyH_take (i:=7) (v:=(.pointer (some ⟨(w.heap.size + 1),30,none⟩))) rfl (by kernel_rfl) (by kernel_rfl) (by kernel_rfl) (fun _ _ _ h=>h) (Or.inl ⟨by rfl,fun wz hz=>by skip;go_simp⟩) hH ?_
  try simp only [Act.put,List.getElem_toArray,List.getElem_cons_succ,List.getElem_cons_zero,List.setIfInBounds_toArray,List.set_cons_zero,List.set_cons_succ]
  refine wpAnyH_take (i:=8) (v:=(.bool s2)) rfl (by kernel_rfl) (by kernel_rfl) (by kernel_rfl) (fun _ _ _ h=>h) (Or.inl ⟨by rfl,fun wz hz=>by have hc:=cell_sg hz.2.2.1;go_simp⟩) hH ?_
  try simp only [Act.put,List.getElem_toArray,List.getElem_cons_succ,List.getElem_cons_zero,List.setIfInBounds_toArray,List.set_cons_zero,List.set_cons_succ]
  refine wpAnyH_take (i:=9) (v:=(.bool (s1 != s2))) rfl (by kernel_rfl) (by kernel_rfl) (by kernel_rfl) (fun _ _ _ h=>h) (Or.inl ⟨by rfl,fun wz hz=>by skip;go_simp;cases s1 <;> cases s2 <;> rfl⟩) hH ?_
  try simp only [Act.put,List.getElem_toArray,List.getElem_cons_succ,List.getElem_cons_zero,List.setIfInBounds_toArray,List.set_cons_zero,List.set_cons_succ]
  refine wpAnyH_ready (rs:=[4]) (by kernel_rfl) (by simp) ?_
  refine AllReadyH.cons rfl (fun K hK=>?_) AllReadyH.nil
  simp only [List.getElem_toArray,List.getElem_cons_succ,List.getElem_cons_zero]
  rw [if_pos (by rfl)]
  go_simp
  refine (timesM_any n1 n2 H1.out H2.out H3.out _).mono ?_;rintro e w1 ⟨rfl,hb1⟩
  try simp only []
  refine hK.out _ _ ?_ (fun hH1=>?_)
  · exact ⟨(hH.1).trans (hb1.mono (hH.1).size),range_keep hH.2.1 hb1,range_keep hH.2.2.1 hb1,there_keep hH.2.2.2 hb1⟩
  clear hK K
  try simp only [Act.put,List.getElem_toArray,List.getElem_cons_succ,List.getElem_cons_zero,List.setIfInBounds_toArray,List.set_cons_zero,List.set_cons_succ]
  refine wpAnyH_ready (rs:=[10]) (by kernel_rfl) (by simp) ?_
  refine AllReadyH.cons rfl (fun K hK=>?_) AllReadyH.nil
  simp only [List.getElem_toArray,List.getElem_cons_succ,List.getElem_cons_zero]
  rw [if_pos (by rfl)]
  go_simp
  refine (number_any (n1 * n2) (s1 != s2) H3.out _).mono ?_;rintro e w2 ⟨rfl,hb2⟩
  try simp only []
  refine hK.out _ _ ?_ (fun hH2=>?_)
  · exact ⟨(hH1.1).trans (hb2.mono (hH1.1).size),range_keep hH1.2.1 hb2,range_keep hH1.2.2.1 hb2,there_keep hH1.2.2.2 hb2⟩
  clear hK K
  try simp only [Act.put,List.getElem_toArray,List.getElem_cons_succ,List.getElem_cons_zero,List.setIfInBounds_toArray,List.set_cons_zero,List.set_cons_succ]
  refine wpAnyH_ready (rs:=[11]) (by kernel_rfl) (by simp) ?_
  refine AllReadyH.cons rfl (fun K hK=>?_) AllReadyH.nil
  simp only [List.getElem_toArray,List.getElem_cons_succ,List.getElem_cons_zero]
  rw [if_pos (by rfl)]
  with_reducible refine wst88 (w.heap.size + 2) 0 (n1 * n2) ((s1 != s2) && !decide (n1 * n2 = 0)) ?_ hH2.2.2.2 ?_
  · exact ⟨_,_,rfl,rfl,rfl⟩
  refine hK.out _ _ ?_ (fun hH3=>?_)
  · exact ⟨below_set hH2.1 (by omega) _ _,range_setk hH2.2.1 (by first | trivial | omega),range_setk hH2.2.2.1 (by first | trivial | omega),there_setk hH2.2.2.2 (by first | trivial | omega)⟩
  clear hK K
  try simp only [Act.put]
  refine wpAnyH_done (by kernel_rfl) ?_ _
  go_wp2
  refine ret88 Tryz.results83 (w.heap.size + 2) 0 rfl (n1 * n2) ((s1 != s2) && !decide (n1 * n2 = 0)) (range_set hH2.2.2.2 (by rw [sgL_len])) rfl ⟨rfl,hH3.1⟩
end
section
open Go.RowKit
def Mx (w : World) (B a b c : Nat) (w' : World) : Prop:=Below w.heap.size w w'/\w'.rangeAt B 0 (mgL a ++ mgL b)/\w'.there w.heap.size 0 30/\w'.rangeAt (w.heap.size + 1) 0 (mgL c)/\w'.there (w.heap.size + 1) 0 30
theorem range_mm {W : World} {B a b : Nat} (h : W.rangeAt B 0 (mgL a ++ mgL b)) : W.rangeAt B 0 (mgL a)/\W.rangeAt B 30 (mgL b):=⟨range_left h,range_right h 30 (by rw [mgL_len])⟩
theorem cmp_pos {a b : Nat} {x : Int} (h : cmpN b a = x) : 0 < x ↔ a < b:=by
  subst h;unfold cmpN
  by_cases h1 : b < a
  · rw [if_pos h1];omega
  · rw [if_neg h1]
    by_cases h2 : a < b
    · rw [if_pos h2];omega
    · rw [if_neg h2];omega
theorem cmp_neg {a b : Nat} {x : Int} (h : cmpN b a = x) : x < 0 ↔ b < a:=by
  subst h;unfold cmpN
  by_cases h1 : b < a
  · rw [if_pos h1];omega
  · rw [if_neg h1]
    by_cases h2 : a < b
    · rw [if_pos h2];omega
    · rw [if_neg h2];omega
theorem Mx.set {w w' : World} {B a b c d : Nat} (h : Mx w B a b c w') (hB : B < w.heap.size) : Mx w B a b d (w'.setCells (w.heap.size + 1) 0 (mgL d)) :=
  ⟨below_set h.1 (by omega) _ _,range_setk h.2.1 (by omega),there_setk h.2.2.1 trivial,range_set h.2.2.2.2 (by rw [mgL_len]),there_setk h.2.2.2.2 trivial⟩
set_option maxHeartbeats 2000000 in
theorem maxF_any (a b B : Nat) (ha : a < bb ^ 30) (hb : b < bb ^ 30) (w : World) (hB : B < w.heap.size) (hr : w.rangeAt B 0 (mgL a ++ mgL b)) :
    Calls Tryz.prog 194 #[.slice (some ⟨B,0,none⟩) 2 2,.func (.func 146) #[] #[]] w fun e w'=>e = .returned (.agg (mgL (max a b)).toArray)/\Below w.heap.size w w':=by
  have hC:=fun w=>compare_any b a hb ha w
  obtain ⟨x,hx⟩ : ∃ x,cmpN b a = x:=⟨_,rfl⟩
  have Hx:=Lib.hid hx
  rw [hx] at hC
  clear hx ha hb
  have HC:=Lib.hid hC;clear hC
  have Hr:=Lib.hid hr;clear hr
  have HB:=Lib.hid hB;clear hB
  have Ht0:=Lib.hid (show (w.alloc (.cells (mgL 0).toArray 86)).there w.heap.size 0 30 from there_new w _ 86 30 (by rw [mgL_len]))
  have Ht1:=Lib.hid (show ((w.alloc (.cells (mgL 0).toArray 86)).alloc (.cells (mgL 0).toArray 86)).there (w.heap.size + 1) 0 30 from there_at (by simp) _ 86 (by rw [mgL_len]))
  have HM0:=Lib.hid (show Mx w B a b a (((w.alloc (.cells (mgL 0).toArray 86)).alloc (.cells (mgL 0).toArray 86)).setCells (w.heap.size + 1) 0 (mgL a)) from
    Mx.set (c:=0) ⟨((Below.refl w.heap.size w).alloc (Nat.le_refl _) _).alloc (by simp) _,World.rangeAt_alloc (World.rangeAt_alloc Hr.out _) _,World.there_alloc Ht0.out _,range_at (by simp) _ 86,Ht1.out⟩ HB.out)
  go_enter Tryz.func194,Tryz.ntmps194
  go_wp2_with (first
    | ((with_reducible refine al_zb 86 _ w.heap.size ?_ ?_ z86 ?_);(· exact ⟨rfl,rfl⟩);· (simp;done))
    | ((with_reducible refine al_zb 86 _ (w.heap.size + 1) ?_ ?_ z86 ?_);(· exact ⟨rfl,rfl⟩);· (simp;done))
    | ((with_reducible refine ld86 B 0 a ?_ ?_ ?_);(· exact ⟨rfl,_,rfl,rfl⟩);· exact (range_mm (World.rangeAt_alloc Hr.out _)).1)
    | ((with_reducible refine st86 (w.heap.size + 1) 0 a ?_ ?_ ?_);(· exact ⟨rfl,_,_,rfl,rfl,rfl⟩);· exact Ht1.out))
  go_loopw [6] (fun i wr=>(i = .int .i64 1/\Mx w B a b a wr) ∨ (i = .int .i64 2/\Mx w B a b (max a b) wr)) (fun i _=>2 - (intOf i).toNat)
  case atStart=>exact Or.inl ⟨rfl,HM0.out⟩
  case round =>
    rcases hrel with ⟨rfl,hM⟩ | ⟨rfl,hM⟩
    · have hC:=HC.out
      by_cases hlt : 0 < x
      · have t1 : decide (0 < x) = true:=by simpa using hlt
        have Hy:=Lib.hid (show max a b = b by have:=(cmp_pos Hx.out).1 hlt;omega)
        clear hlt
        go_wp2_with fail
        refine wp_region_held_drew (S:=(fun w'=>Below w.heap.size w w'/\w'.rangeAt B 0 (mgL a ++ mgL b)/\w'.there w.heap.size 0 30/\w'.rangeAt (w.heap.size + 1) 0 (mgL a)/\w'.there (w.heap.size + 1) 0 30)) (by kernel_rfl) ?_ (fun hH=>?_)
        · exact ⟨hM.1.drew,hM.2.1,hM.2.2.1,hM.2.2.2.1,hM.2.2.2.2⟩
        try dsimp only at hH
        refine wpAnyH_take (i:=0) (v:=(.func (.func 146) #[] #[])) rfl (by kernel_rfl) (by kernel_rfl) (by kernel_rfl) (fun _ _ _ h=>h) (Or.inl ⟨by rfl,fun wz hz=>by skip;go_simp⟩) hH ?_
        try simp only [Act.put,List.getElem_toArray,List.getElem_cons_zero,List.setIfInBounds_toArray,List.set_cons_zero,List.set_cons_succ]
        refine wpAnyH_take (i:=1) (v:=(.slice (some ⟨B,0,none⟩) 2 2)) rfl (by kernel_rfl) (by kernel_rfl) (by kernel_rfl) (fun _ _ _ h=>h) (Or.inl ⟨by rfl,fun wz hz=>by skip;go_simp⟩) hH ?_
        try simp only [Act.put,List.getElem_toArray,List.getElem_cons_succ,List.getElem_cons_zero,List.setIfInBounds_toArray,List.set_cons_zero,List.set_cons_succ]
        refine wpAnyH_take (i:=2) (v:=(.int .i64 1)) rfl (by kernel_rfl) (by kernel_rfl) (by kernel_rfl) (fun _ _ _ h=>h) (Or.inl ⟨by rfl,fun wz hz=>by skip;go_simp⟩) hH ?_
        try simp only [Act.put,List.getElem_toArray,List.getElem_cons_succ,List.getElem_cons_zero,List.setIfInBounds_toArray,List.set_cons_zero,List.set_cons_succ]
        refine wpAnyH_take (i:=3) (v:=(.pointer (some ⟨B,30,none⟩))) rfl (by kernel_rfl) (by kernel_rfl) (by kernel_rfl) (fun _ _ _ h=>h) (Or.inl ⟨by rfl,fun wz hz=>by skip;go_simp⟩) hH ?_
        try simp only [Act.put,List.getElem_toArray,List.getElem_cons_succ,List.getElem_cons_zero,List.setIfInBounds_toArray,List.set_cons_zero,List.set_cons_succ]
        refine wpAnyH_take (i:=4) (v:=(.agg (mgL b).toArray)) rfl (by kernel_rfl) (by kernel_rfl) (by kernel_rfl) (fun _ _ _ h=>h) (yld86 B 30 b rfl ⟨_,rfl,rfl⟩ (fun wz hz=>(range_mm hz.2.1).2)) hH ?_
        try simp only [Act.put,List.getElem_toArray,List.getElem_cons_succ,List.getElem_cons_zero,List.setIfInBounds_toArray,List.set_cons_zero,List.set_cons_succ]
        refine wpAnyH_take (i:=5) (v:=(.agg (mgL a).toArray)) rfl (by kernel_rfl) (by kernel_rfl) (by kernel_rfl) (fun _ _ _ h=>h) (yld86 (w.heap.size + 1) 0 a rfl ⟨_,rfl,rfl⟩ (fun wz hz=>hz.2.2.2.1)) hH ?_
        try simp only [Act.put,List.getElem_toArray,List.getElem_cons_succ,List.getElem_cons_zero,List.setIfInBounds_toArray,List.set_cons_zero,List.set_cons_succ]
        refine wpAnyH_ready (rs:=[6]) (by kernel_rfl) (by simp) ?_
        refine AllReadyH.cons rfl (fun K hK=>?_) AllReadyH.nil
        simp only [List.getElem_toArray,List.getElem_cons_succ,List.getElem_cons_zero]
        rw [if_pos (by rfl)]
        go_simp
        refine (hC _).mono ?_;rintro e w1 ⟨rfl,hb1⟩
        try simp only []
        refine hK.out _ _ ?_ (fun hH1=>?_)
        · exact ⟨(hH.1).trans (hb1.mono (hH.1).size),range_keep hH.2.1 hb1,there_keep hH.2.2.1 hb1,range_keep hH.2.2.2.1 hb1,there_keep hH.2.2.2.2 hb1⟩
        clear hK K
        try simp only [Act.put,List.getElem_toArray,List.getElem_cons_succ,List.getElem_cons_zero,List.setIfInBounds_toArray,List.set_cons_zero,List.set_cons_succ]
        refine wpAnyH_take (i:=7) (v:=(.bool true)) rfl (by kernel_rfl) (by kernel_rfl) (by kernel_rfl) (fun _ _ _ h=>h) (Or.inl ⟨by rfl,fun wz hz=>by skip;go_simp⟩) hH1 ?_
        try simp only [Act.put,List.getElem_toArray,List.getElem_cons_succ,List.getElem_cons_zero,List.setIfInBounds_toArray,List.set_cons_zero,List.set_cons_succ]
        refine wpAnyH_done (by kernel_rfl) ?_ _
        have HM:=Lib.hid (show Mx w B a b a w1 from hH1)
        clear hM hH hH1 hb1 hC
        go_wp2_with (first
          | ((with_reducible refine ld86 B 30 b ?_ ?_ ?_);(· exact ⟨rfl,_,rfl,rfl⟩);· exact (range_mm HM.out.2.1).2)
          | ((with_reducible refine st86 (w.heap.size + 1) 0 b ?_ ?_ ?_);(· exact ⟨rfl,_,_,rfl,rfl,rfl⟩);· exact HM.out.2.2.2.2))
        go_roundw
        case rel=>exact Or.inr ⟨rfl,by rw [Hy.out];exact HM.out.set HB.out⟩
        case measure=>simp [intOf]
      · have t1 : decide (0 < x) = false:=by simpa using hlt
        have Hy:=Lib.hid (show max a b = a by have:=mt (cmp_pos Hx.out).2 hlt;omega)
        clear hlt
        go_wp2_with fail
        refine wp_region_held_drew (S:=(fun w'=>Below w.heap.size w w'/\w'.rangeAt B 0 (mgL a ++ mgL b)/\w'.there w.heap.size 0 30/\w'.rangeAt (w.heap.size + 1) 0 (mgL a)/\w'.there (w.heap.size + 1) 0 30)) (by kernel_rfl) ?_ (fun hH=>?_)
        · exact ⟨hM.1.drew,hM.2.1,hM.2.2.1,hM.2.2.2.1,hM.2.2.2.2⟩
        try dsimp only at hH
        refine wpAnyH_take (i:=0) (v:=(.func (.func 146) #[] #[])) rfl (by kernel_rfl) (by kernel_rfl) (by kernel_rfl) (fun _ _ _ h=>h) (Or.inl ⟨by rfl,fun wz hz=>by skip;go_simp⟩) hH ?_
        try simp only [Act.put,List.getElem_toArray,List.getElem_cons_zero,List.setIfInBounds_toArray,List.set_cons_zero,List.set_cons_succ]
        refine wpAnyH_take (i:=1) (v:=(.slice (some ⟨B,0,none⟩) 2 2)) rfl (by kernel_rfl) (by kernel_rfl) (by kernel_rfl) (fun _ _ _ h=>h) (Or.inl ⟨by rfl,fun wz hz=>by skip;go_simp⟩) hH ?_
        try simp only [Act.put,List.getElem_toArray,List.getElem_cons_succ,List.getElem_cons_zero,List.setIfInBounds_toArray,List.set_cons_zero,List.set_cons_succ]
        refine wpAnyH_take (i:=2) (v:=(.int .i64 1)) rfl (by kernel_rfl) (by kernel_rfl) (by kernel_rfl) (fun _ _ _ h=>h) (Or.inl ⟨by rfl,fun wz hz=>by skip;go_simp⟩) hH ?_
        try simp only [Act.put,List.getElem_toArray,List.getElem_cons_succ,List.getElem_cons_zero,List.setIfInBounds_toArray,List.set_cons_zero,List.set_cons_succ]
        refine wpAnyH_take (i:=3) (v:=(.pointer (some ⟨B,30,none⟩))) rfl (by kernel_rfl) (by kernel_rfl) (by kernel_rfl) (fun _ _ _ h=>h) (Or.inl ⟨by rfl,fun wz hz=>by skip;go_simp⟩) hH ?_
        try simp only [Act.put,List.getElem_toArray,List.getElem_cons_succ,List.getElem_cons_zero,List.setIfInBounds_toArray,List.set_cons_zero,List.set_cons_succ]
        refine wpAnyH_take (i:=4) (v:=(.agg (mgL b).toArray)) rfl (by kernel_rfl) (by kernel_rfl) (by kernel_rfl) (fun _ _ _ h=>h) (yld86 B 30 b rfl ⟨_,rfl,rfl⟩ (fun wz hz=>(range_mm hz.2.1).2)) hH ?_
        try simp only [Act.put,List.getElem_toArray,List.getElem_cons_succ,List.getElem_cons_zero,List.setIfInBounds_toArray,List.set_cons_zero,List.set_cons_succ]
        refine wpAnyH_take (i:=5) (v:=(.agg (mgL a).toArray)) rfl (by kernel_rfl) (by kernel_rfl) (by kernel_rfl) (fun _ _ _ h=>h) (yld86 (w.heap.size + 1) 0 a rfl ⟨_,rfl,rfl⟩ (fun wz hz=>hz.2.2.2.1)) hH ?_
        try simp only [Act.put,List.getElem_toArray,List.getElem_cons_succ,List.getElem_cons_zero,List.setIfInBounds_toArray,List.set_cons_zero,List.set_cons_succ]
        refine wpAnyH_ready (rs:=[6]) (by kernel_rfl) (by simp) ?_
        refine AllReadyH.cons rfl (fun K hK=>?_) AllReadyH.nil
        simp only [List.getElem_toArray,List.getElem_cons_succ,List.getElem_cons_zero]
        rw [if_pos (by rfl)]
        go_simp
        refine (hC _).mono ?_;rintro e w1 ⟨rfl,hb1⟩
        try simp only []
        refine hK.out _ _ ?_ (fun hH1=>?_)
        · exact ⟨(hH.1).trans (hb1.mono (hH.1).size),range_keep hH.2.1 hb1,there_keep hH.2.2.1 hb1,range_keep hH.2.2.2.1 hb1,there_keep hH.2.2.2.2 hb1⟩
        clear hK K
        try simp only [Act.put,List.getElem_toArray,List.getElem_cons_succ,List.getElem_cons_zero,List.setIfInBounds_toArray,List.set_cons_zero,List.set_cons_succ]
        refine wpAnyH_take (i:=7) (v:=(.bool false)) rfl (by kernel_rfl) (by kernel_rfl) (by kernel_rfl) (fun _ _ _ h=>h) (Or.inl ⟨by rfl,fun wz hz=>by skip;go_simp⟩) hH1 ?_
        try simp only [Act.put,List.getElem_toArray,List.getElem_cons_succ,List.getElem_cons_zero,List.setIfInBounds_toArray,List.set_cons_zero,List.set_cons_succ]
        refine wpAnyH_done (by kernel_rfl) ?_ _
        have HM:=Lib.hid (show Mx w B a b a w1 from hH1)
        clear hM hH hH1 hb1 hC
        go_wp2
        go_roundw
        case rel=>exact Or.inr ⟨rfl,by rw [Hy.out];exact HM.out⟩
        case measure=>simp [intOf]
    · have HM:=Lib.hid hM
      clear hM
      go_wp2_with (first
        | ((with_reducible refine ld86 (w.heap.size + 1) 0 (max a b) ?_ ?_ ?_);(· exact ⟨rfl,_,rfl,rfl⟩);· exact HM.out.2.2.2.1)
        | ((with_reducible refine st86 w.heap.size 0 (max a b) ?_ ?_ ?_);(· exact ⟨rfl,_,_,rfl,rfl,rfl⟩);· exact HM.out.2.2.1))
      refine ret86 Tryz.results194 w.heap.size 0 rfl (max a b) (range_set HM.out.2.2.1 (by rw [mgL_len])) rfl ⟨rfl,?_⟩
      exact below_set HM.out.1 (Nat.le_refl _) _ _
set_option maxHeartbeats 2000000 in
theorem minF_any (a b B : Nat) (ha : a < bb ^ 30) (hb : b < bb ^ 30) (w : World) (hB : B < w.heap.size) (hr : w.rangeAt B 0 (mgL a ++ mgL b)) :
    Calls Tryz.prog 195 #[.slice (some ⟨B,0,none⟩) 2 2,.func (.func 146) #[] #[]] w fun e w'=>e = .returned (.agg (mgL (min a b)).toArray)/\Below w.heap.size w w':=by
  have hC:=fun w=>compare_any b a hb ha w
  obtain ⟨x,hx⟩ : ∃ x,cmpN b a = x:=⟨_,rfl⟩
  have Hx:=Lib.hid hx
  rw [hx] at hC
  clear hx ha hb
  have HC:=Lib.hid hC;clear hC
  have Hr:=Lib.hid hr;clear hr
  have HB:=Lib.hid hB;clear hB
  have Ht0:=Lib.hid (show (w.alloc (.cells (mgL 0).toArray 86)).there w.heap.size 0 30 from there_new w _ 86 30 (by rw [mgL_len]))
  have Ht1:=Lib.hid (show ((w.alloc (.cells (mgL 0).toArray 86)).alloc (.cells (mgL 0).toArray 86)).there (w.heap.size + 1) 0 30 from there_at (by simp) _ 86 (by rw [mgL_len]))
  have HM0:=Lib.hid (show Mx w B a b a (((w.alloc (.cells (mgL 0).toArray 86)).alloc (.cells (mgL 0).toArray 86)).setCells (w.heap.size + 1) 0 (mgL a)) from
    Mx.set (c:=0) ⟨((Below.refl w.heap.size w).alloc (Nat.le_refl _) _).alloc (by simp) _,World.rangeAt_alloc (World.rangeAt_alloc Hr.out _) _,World.there_alloc Ht0.out _,range_at (by simp) _ 86,Ht1.out⟩ HB.out)
  go_enter Tryz.func195,Tryz.ntmps195
  go_wp2_with (first
    | ((with_reducible refine al_zb 86 _ w.heap.size ?_ ?_ z86 ?_);(· exact ⟨rfl,rfl⟩);· (simp;done))
    | ((with_reducible refine al_zb 86 _ (w.heap.size + 1) ?_ ?_ z86 ?_);(· exact ⟨rfl,rfl⟩);· (simp;done))
    | ((with_reducible refine ld86 B 0 a ?_ ?_ ?_);(· exact ⟨rfl,_,rfl,rfl⟩);· exact (range_mm (World.rangeAt_alloc Hr.out _)).1)
    | ((with_reducible refine st86 (w.heap.size + 1) 0 a ?_ ?_ ?_);(· exact ⟨rfl,_,_,rfl,rfl,rfl⟩);· exact Ht1.out))
  go_loopw [6] (fun i wr=>(i = .int .i64 1/\Mx w B a b a wr) ∨ (i = .int .i64 2/\Mx w B a b (min a b) wr)) (fun i _=>2 - (intOf i).toNat)
  case atStart=>exact Or.inl ⟨rfl,HM0.out⟩
  case round =>
    rcases hrel with ⟨rfl,hM⟩ | ⟨rfl,hM⟩
    · have hC:=HC.out
      by_cases hlt : x < 0
      · have t1 : decide (x < 0) = true:=by simpa using hlt
        have Hy:=Lib.hid (show min a b = b by have:=(cmp_neg Hx.out).1 hlt;omega)
        clear hlt
        go_wp2_with fail
        refine wp_region_held_drew (S:=(fun w'=>Below w.heap.size w w'/\w'.rangeAt B 0 (mgL a ++ mgL b)/\w'.there w.heap.size 0 30/\w'.rangeAt (w.heap.size + 1) 0 (mgL a)/\w'.there (w.heap.size + 1) 0 30)) (by kernel_rfl) ?_ (fun hH=>?_)
        · exact ⟨hM.1.drew,hM.2.1,hM.2.2.1,hM.2.2.2.1,hM.2.2.2.2⟩
        try dsimp only at hH
        refine wpAnyH_take (i:=0) (v:=(.func (.func 146) #[] #[])) rfl (by kernel_rfl) (by kernel_rfl) (by kernel_rfl) (fun _ _ _ h=>h) (Or.inl ⟨by rfl,fun wz hz=>by skip;go_simp⟩) hH ?_
        try simp only [Act.put,List.getElem_toArray,List.getElem_cons_zero,List.setIfInBounds_toArray,List.set_cons_zero,List.set_cons_succ]
        refine wpAnyH_take (i:=1) (v:=(.slice (some ⟨B,0,none⟩) 2 2)) rfl (by kernel_rfl) (by kernel_rfl) (by kernel_rfl) (fun _ _ _ h=>h) (Or.inl ⟨by rfl,fun wz hz=>by skip;go_simp⟩) hH ?_
        try simp only [Act.put,List.getElem_toArray,List.getElem_cons_succ,List.getElem_cons_zero,List.setIfInBounds_toArray,List.set_cons_zero,List.set_cons_succ]
        refine wpAnyH_take (i:=2) (v:=(.int .i64 1)) rfl (by kernel_rfl) (by kernel_rfl) (by kernel_rfl) (fun _ _ _ h=>h) (Or.inl ⟨by rfl,fun wz hz=>by skip;go_simp⟩) hH ?_
        try simp only [Act.put,List.getElem_toArray,List.getElem_cons_succ,List.getElem_cons_zero,List.setIfInBounds_toArray,List.set_cons_zero,List.set_cons_succ]
        refine wpAnyH_take (i:=3) (v:=(.pointer (some ⟨B,30,none⟩))) rfl (by kernel_rfl) (by kernel_rfl) (by kernel_rfl) (fun _ _ _ h=>h) (Or.inl ⟨by rfl,fun wz hz=>by skip;go_simp⟩) hH ?_
        try simp only [Act.put,List.getElem_toArray,List.getElem_cons_succ,List.getElem_cons_zero,List.setIfInBounds_toArray,List.set_cons_zero,List.set_cons_succ]
        refine wpAnyH_take (i:=4) (v:=(.agg (mgL b).toArray)) rfl (by kernel_rfl) (by kernel_rfl) (by kernel_rfl) (fun _ _ _ h=>h) (yld86 B 30 b rfl ⟨_,rfl,rfl⟩ (fun wz hz=>(range_mm hz.2.1).2)) hH ?_
        try simp only [Act.put,List.getElem_toArray,List.getElem_cons_succ,List.getElem_cons_zero,List.setIfInBounds_toArray,List.set_cons_zero,List.set_cons_succ]
        refine wpAnyH_take (i:=5) (v:=(.agg (mgL a).toArray)) rfl (by kernel_rfl) (by kernel_rfl) (by kernel_rfl) (fun _ _ _ h=>h) (yld86 (w.heap.size + 1) 0 a rfl ⟨_,rfl,rfl⟩ (fun wz hz=>hz.2.2.2.1)) hH ?_
        try simp only [Act.put,List.getElem_toArray,List.getElem_cons_succ,List.getElem_cons_zero,List.setIfInBounds_toArray,List.set_cons_zero,List.set_cons_succ]
        refine wpAnyH_ready (rs:=[6]) (by kernel_rfl) (by simp) ?_
        refine AllReadyH.cons rfl (fun K hK=>?_) AllReadyH.nil
        simp only [List.getElem_toArray,List.getElem_cons_succ,List.getElem_cons_zero]
        rw [if_pos (by rfl)]
        go_simp
        refine (hC _).mono ?_;rintro e w1 ⟨rfl,hb1⟩
        try simp only []
        refine hK.out _ _ ?_ (fun hH1=>?_)
        · exact ⟨(hH.1).trans (hb1.mono (hH.1).size),range_keep hH.2.1 hb1,there_keep hH.2.2.1 hb1,range_keep hH.2.2.2.1 hb1,there_keep hH.2.2.2.2 hb1⟩
        clear hK K
        try simp only [Act.put,List.getElem_toArray,List.getElem_cons_succ,List.getElem_cons_zero,List.setIfInBounds_toArray,List.set_cons_zero,List.set_cons_succ]
        refine wpAnyH_take (i:=7) (v:=(.bool true)) rfl (by kernel_rfl) (by kernel_rfl) (by kernel_rfl) (fun _ _ _ h=>h) (Or.inl ⟨by rfl,fun wz hz=>by skip;go_simp⟩) hH1 ?_
        try simp only [Act.put,List.getElem_toArray,List.getElem_cons_succ,List.getElem_cons_zero,List.setIfInBounds_toArray,List.set_cons_zero,List.set_cons_succ]
        refine wpAnyH_done (by kernel_rfl) ?_ _
        have HM:=Lib.hid (show Mx w B a b a w1 from hH1)
        clear hM hH hH1 hb1 hC
        go_wp2_with (first
          | ((with_reducible refine ld86 B 30 b ?_ ?_ ?_);(· exact ⟨rfl,_,rfl,rfl⟩);· exact (range_mm HM.out.2.1).2)
          | ((with_reducible refine st86 (w.heap.size + 1) 0 b ?_ ?_ ?_);(· exact ⟨rfl,_,_,rfl,rfl,rfl⟩);· exact HM.out.2.2.2.2))
        go_roundw
        case rel=>exact Or.inr ⟨rfl,by rw [Hy.out];exact HM.out.set HB.out⟩
        case measure=>simp [intOf]
      · have t1 : decide (x < 0) = false:=by simpa using hlt
        have Hy:=Lib.hid (show min a b = a by have:=mt (cmp_neg Hx.out).2 hlt;omega)
        clear hlt
        go_wp2_with fail
        refine wp_region_held_drew (S:=(fun w'=>Below w.heap.size w w'/\w'.rangeAt B 0 (mgL a ++ mgL b)/\w'.there w.heap.size 0 30/\w'.rangeAt (w.heap.size + 1) 0 (mgL a)/\w'.there (w.heap.size + 1) 0 30)) (by kernel_rfl) ?_ (fun hH=>?_)
        · exact ⟨hM.1.drew,hM.2.1,hM.2.2.1,hM.2.2.2.1,hM.2.2.2.2⟩
        try dsimp only at hH
        refine wpAnyH_take (i:=0) (v:=(.func (.func 146) #[] #[])) rfl (by kernel_rfl) (by kernel_rfl) (by kernel_rfl) (fun _ _ _ h=>h) (Or.inl ⟨by rfl,fun wz hz=>by skip;go_simp⟩) hH ?_
        try simp only [Act.put,List.getElem_toArray,List.getElem_cons_zero,List.setIfInBounds_toArray,List.set_cons_zero,List.set_cons_succ]
        refine wpAnyH_take (i:=1) (v:=(.slice (some ⟨B,0,none⟩) 2 2)) rfl (by kernel_rfl) (by kernel_rfl) (by kernel_rfl) (fun _ _ _ h=>h) (Or.inl ⟨by rfl,fun wz hz=>by skip;go_simp⟩) hH ?_
        try simp only [Act.put,List.getElem_toArray,List.getElem_cons_succ,List.getElem_cons_zero,List.setIfInBounds_toArray,List.set_cons_zero,List.set_cons_succ]
        refine wpAnyH_take (i:=2) (v:=(.int .i64 1)) rfl (by kernel_rfl) (by kernel_rfl) (by kernel_rfl) (fun _ _ _ h=>h) (Or.inl ⟨by rfl,fun wz hz=>by skip;go_simp⟩) hH ?_
        try simp only [Act.put,List.getElem_toArray,List.getElem_cons_succ,List.getElem_cons_zero,List.setIfInBounds_toArray,List.set_cons_zero,List.set_cons_succ]
        refine wpAnyH_take (i:=3) (v:=(.pointer (some ⟨B,30,none⟩))) rfl (by kernel_rfl) (by kernel_rfl) (by kernel_rfl) (fun _ _ _ h=>h) (Or.inl ⟨by rfl,fun wz hz=>by skip;go_simp⟩) hH ?_
        try simp only [Act.put,List.getElem_toArray,List.getElem_cons_succ,List.getElem_cons_zero,List.setIfInBounds_toArray,List.set_cons_zero,List.set_cons_succ]
        refine wpAnyH_take (i:=4) (v:=(.agg (mgL b).toArray)) rfl (by kernel_rfl) (by kernel_rfl) (by kernel_rfl) (fun _ _ _ h=>h) (yld86 B 30 b rfl ⟨_,rfl,rfl⟩ (fun wz hz=>(range_mm hz.2.1).2)) hH ?_
        try simp only [Act.put,List.getElem_toArray,List.getElem_cons_succ,List.getElem_cons_zero,List.setIfInBounds_toArray,List.set_cons_zero,List.set_cons_succ]
        refine wpAnyH_take (i:=5) (v:=(.agg (mgL a).toArray)) rfl (by kernel_rfl) (by kernel_rfl) (by kernel_rfl) (fun _ _ _ h=>h) (yld86 (w.heap.size + 1) 0 a rfl ⟨_,rfl,rfl⟩ (fun wz hz=>hz.2.2.2.1)) hH ?_
        try simp only [Act.put,List.getElem_toArray,List.getElem_cons_succ,List.getElem_cons_zero,List.setIfInBounds_toArray,List.set_cons_zero,List.set_cons_succ]
        refine wpAnyH_ready (rs:=[6]) (by kernel_rfl) (by simp) ?_
        refine AllReadyH.cons rfl (fun K hK=>?_) AllReadyH.nil
        simp only [List.getElem_toArray,List.getElem_cons_succ,List.getElem_cons_zero]
        rw [if_pos (by rfl)]
        go_simp
        refine (hC _).mono ?_;rintro e w1 ⟨rfl,hb1⟩
        try simp only []
        refine hK.out _ _ ?_ (fun hH1=>?_)
        · exact ⟨(hH.1).trans (hb1.mono (hH.1).size),range_keep hH.2.1 hb1,there_keep hH.2.2.1 hb1,range_keep hH.2.2.2.1 hb1,there_keep hH.2.2.2.2 hb1⟩
        clear hK K
        try simp only [Act.put,List.getElem_toArray,List.getElem_cons_succ,List.getElem_cons_zero,List.setIfInBounds_toArray,List.set_cons_zero,List.set_cons_succ]
        refine wpAnyH_take (i:=7) (v:=(.bool false)) rfl (by kernel_rfl) (by kernel_rfl) (by kernel_rfl) (fun _ _ _ h=>h) (Or.inl ⟨by rfl,fun wz hz=>by skip;go_simp⟩) hH1 ?_
        try simp only [Act.put,List.getElem_toArray,List.getElem_cons_succ,List.getElem_cons_zero,List.setIfInBounds_toArray,List.set_cons_zero,List.set_cons_succ]
        refine wpAnyH_done (by kernel_rfl) ?_ _
        have HM:=Lib.hid (show Mx w B a b a w1 from hH1)
        clear hM hH hH1 hb1 hC
        go_wp2
        go_roundw
        case rel=>exact Or.inr ⟨rfl,by rw [Hy.out];exact HM.out⟩
        case measure=>simp [intOf]
    · have HM:=Lib.hid hM
      clear hM
      go_wp2_with (first
        | ((with_reducible refine ld86 (w.heap.size + 1) 0 (min a b) ?_ ?_ ?_);(· exact ⟨rfl,_,rfl,rfl⟩);· exact HM.out.2.2.2.1)
        | ((with_reducible refine st86 w.heap.size 0 (min a b) ?_ ?_ ?_);(· exact ⟨rfl,_,_,rfl,rfl,rfl⟩);· exact HM.out.2.2.1))
      refine ret86 Tryz.results195 w.heap.size 0 rfl (min a b) (range_set HM.out.2.2.1 (by rw [mgL_len])) rfl ⟨rfl,?_⟩
      exact below_set HM.out.1 (Nat.le_refl _) _ _
end
end Go.Proofs.YtpbegoflpfdajaaGreatDoor
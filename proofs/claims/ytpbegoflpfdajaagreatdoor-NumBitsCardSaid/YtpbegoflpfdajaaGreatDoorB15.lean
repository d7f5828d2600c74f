/- WHAT IS PROVED: contracts of functions of the numbers package and laws for them, used by the last text of this claim. CONDITIONS: stated at each theorem. -/
import Derived.Laws.IdiomCopy
import Derived.Deep.OwnRows
import Derived.Test.YtpbegoflpfdajaaGreatDoorB14
import Derived.Test.YtpbegoflpfdajaaGreatDoorB04
namespace Go.Proofs.YtpbegoflpfdajaaGreatDoor
open Go.RowKit

/-! the blocks of a long division -/
theorem size_setCells (b : Nat) : ∀ (vs : List Value) (o : Nat) (w : World),(w.setCells b o vs).heap.size = w.heap.size
  | [],_,_=>rfl
  | v :: vs,o,w=>(size_setCells b vs (o + 1) _).trans (by simp)
theorem cp220 {ops : Array Oper} {rest : List Oper} {op : Oper} {a : Act} {w : World} {Q : Exit->Act->World->Prop} (b o dLen dCap b2 o2 sLen sCap : Nat) (cs : List Value) (n : Nat)
    (ho : op.guard = none/\∃ d s,op.op = .call { callee:=.builtin .copy,args:=#[d,s],argTypes:=#[220,220] }/\a.eval d = .slice (some ⟨b,o,none⟩) dLen dCap/\a.eval s = .slice (some ⟨b2,o2,none⟩) sLen sCap)
    (hl : cs.length = n) (hn : n = Nat.min sLen dLen) (hr : w.rangeAt b2 o2 cs) (ht : w.there b o n) (h1 : ∀ v ∈ cs,v.oneCell' = true)
    (h : wpList Tryz.prog ops Q rest (a.put op.dst (goInt n)) (w.setCells b o cs)) : wpList Tryz.prog ops Q (op :: rest) a w:=by
  obtain ⟨hg,d,s,hop,hd,hs⟩:=ho
  subst hl
  have hrun:=run_copy_cells (P:=Tryz.prog) w 220 220 op.type 82 b o dLen dCap ⟨b2,o2,none⟩ sLen sCap cs Tryz.underlying220 (by kernel_rfl) hn
    (fun j v hv=>by rw [Addr.add_mid];exact hr j v hv) (fun j hj=>(ht j hj).1) (fun j hj=>(ht j hj).2) h1
  refine wpList_plain hg fun K hK=>?_
  unfold Oper.wp
  simp [execOp,hop,resolve,invoke,builtin,hd,hs,hrun,Result.andThen]
  exact hK _ _ h
theorem info82 : (Tryz.prog.info? 82).map (fun i=>(i.zero,i.size,i.bytes)) = some (some (.int .u32 0),1,4):=by kernel_rfl
theorem makeN (n : Nat) (hn : n <= 1000) (w : World) : (Instr.makeSlice 220 (.int .i64 n) (.int .i64 n)).run Tryz.prog w = .ok (.slice (some ⟨w.heap.size,0,none⟩) n n) (w.alloc (.cells (madeCells #[.int .u32 0] n) 82)) :=
  run_make_row' (P:=Tryz.prog) 220 82 (.int .u32 0) 4 Tryz.underlying220 info82 rfl .i64 .i64 n (by omega) (by omega) w
theorem mk220 {ops : Array Oper} {rest : List Oper} {op : Oper} {a : Act} {w : World} {Q : Exit->Act->World->Prop} (b n : Nat) (x : Int)
    (ho : op.guard = none/\∃ l c,op.op = .makeSlice 220 l c/\a.eval l = .int .i64 x/\a.eval c = .int .i64 x) (hx : x = (n : Nat)) (hb : b = w.heap.size) (hn : n <= 1000)
    (h : wpList Tryz.prog ops Q rest (a.put op.dst (.slice (some ⟨b,0,none⟩) n n)) (w.alloc (.cells (madeCells #[.int .u32 0] n) 82))) : wpList Tryz.prog ops Q (op :: rest) a w:=by
  obtain ⟨hg,l,c,hop,hl,hc⟩:=ho
  subst hb;subst hx
  refine wpList_plain hg fun K hK'=>?_
  have hrun:=makeN n hn w
  unfold Oper.wp
  simp [execOp,hop,hl,hc,hrun,Result.andThen]
  exact hK' _ _ h
theorem made_get (n i : Nat) (h : i < n) : (madeCells #[.int .u32 0] n)[i]? = some (.int .u32 0):=by
  simp [madeCells,h,Nat.mod_one]
theorem made_cell (w : World) (n i : Nat) (h : i < n) : (w.alloc (.cells (madeCells #[.int .u32 0] n) 82)).cell? ⟨w.heap.size,i,none⟩ = some (.int .u32 0)/\(w.alloc (.cells (madeCells #[.int .u32 0] n) 82)).frozen? ⟨w.heap.size,i,none⟩ = false:=by
  have:=made_get n i h
  constructor
  · simp [this]
  · simp
theorem made_there (w : World) (n : Nat) : (w.alloc (.cells (madeCells #[.int .u32 0] n) 82)).there w.heap.size 0 n:=fun j hj=>by
  obtain ⟨h1,h2⟩:=made_cell w n j hj
  rw [Nat.zero_add,h1,h2];exact ⟨rfl,rfl⟩
theorem made_xs (w : World) (M b : Nat) (hM : M < bb ^ 30) (hb : b = w.heap.size) : Xs M M 0 b ((w.alloc (.cells (madeCells #[.int .u32 0] 31) 82)).setCells b 0 (mgL M)):=fun j hj=>by
  subst hb
  rw [if_neg (by omega)]
  by_cases h : j < 30
  · have ht : (w.alloc (.cells (madeCells #[.int .u32 0] 31) 82)).there w.heap.size 0 (mgL M).length:=fun i hi=>by
      rw [mgL_len] at hi
      exact made_there w 31 i (by omega)
    have hs:=World.there_setCells ht w.heap.size 0 (mgL M) j (by rw [mgL_len];exact h)
    have hr:=World.rangeAt_setCells_same _ w.heap.size 0 (mgL M) ht j _ (mgL_get h)
    rw [Nat.zero_add] at hs hr
    exact ⟨hr,hs.2⟩
  · obtain rfl : j = 30:=by omega
    obtain ⟨h1,h2⟩:=made_cell w 31 30 (by omega)
    rw [lim_of_lt hM]
    refine ⟨?_,?_⟩
    · rw [World.cell?_setCells_out w.heap.size (mgL M) 0 _ ⟨w.heap.size,30,none⟩ (fun _ _=>Or.inr (by rw [mgL_len];exact Nat.le_refl _))];exact h1
    · rw [World.frozen?_setCells];exact h2

theorem Xs.keep {X Y k g : Nat} {w w' : World} (h : Xs X Y k g w) (hb : Below w.heap.size w w') : Xs X Y k g w':=fun j hj=>by
  obtain ⟨h1,h2⟩:=h j hj
  have hlt:=World.block_lt_of_cell? w _ h1
  rw [hb.cell (p:=⟨g,j,none⟩) hlt,hb.frozen (p:=⟨g,j,none⟩) hlt];exact ⟨h1,h2⟩
theorem Xs.setk {X Y k g b o : Nat} {w : World} {cs : List Value} (h : Xs X Y k g w) (hne : g ≠ b) : Xs X Y k g (w.setCells b o cs):=fun j hj=>by
  rw [World.cell?_setCells_out b cs o w ⟨g,j,none⟩ (fun hb _=>absurd hb hne),World.frozen?_setCells];exact h j hj
theorem Xs.alloc {X Y k g : Nat} {w : World} (h : Xs X Y k g w) (ob : Obj) : Xs X Y k g (w.alloc ob):=h.keep ((Below.refl _ _).alloc (Nat.le_refl _) _)

def nwE (w : World) (M s : Nat) : World:=((((w.alloc (.cells (mgL 0).toArray 86)).setCells w.heap.size 0 (mgL M)).alloc (.cells (madeCells #[.int .u32 0] 31) 82)).setCells (w.heap.size + 1) 0 (mgL M)).alloc (.cells (madeCells #[.int .u32 0] s) 82)
section
variable (w : World) (M s : Nat)
theorem nwE_old : Below w.heap.size w (nwE w M s) :=
  (below_set ((below_set ((Below.refl _ _).alloc (Nat.le_refl _) _) (Nat.le_refl _) _ _).alloc (by simp [size_setCells]) _) (by omega) _ _).alloc (by simp [size_setCells];omega) _
theorem nwE_size : (nwE w M s).heap.size = w.heap.size + 3:=by unfold nwE;simp [size_setCells]
theorem nwE_at : (nwE w M s).rangeAt w.heap.size 0 (mgL M) :=
  World.rangeAt_alloc (range_setk (World.rangeAt_alloc (range_set (there_at rfl _ 86 (by rw [mgL_len])) (by rw [mgL_len])) _) (by omega)) _
theorem nwE_xs (hM : M < bb ^ 30) : Xs M M 0 (w.heap.size + 1) (nwE w M s):=(made_xs _ M (w.heap.size + 1) hM (by simp [size_setCells])).alloc _
theorem nwE_there : (nwE w M s).there (w.heap.size + 2) 0 s:=by
  have:=made_there ((((w.alloc (.cells (mgL 0).toArray 86)).setCells w.heap.size 0 (mgL M)).alloc (.cells (madeCells #[.int .u32 0] 31) 82)).setCells (w.heap.size + 1) 0 (mgL M)) s
  rwa [show ((((w.alloc (.cells (mgL 0).toArray 86)).setCells w.heap.size 0 (mgL M)).alloc (.cells (madeCells #[.int .u32 0] 31) 82)).setCells (w.heap.size + 1) 0 (mgL M)).heap.size = w.heap.size + 2 by simp [size_setCells]] at this
end
def nwF (w : World) (v hh s : Nat) : World:=(((w.alloc (.cells (mgL 0).toArray 86)).setCells w.heap.size 0 (mgL v)).setCells hh 0 ((mgL v).take s)).alloc (.cells (mgL 0).toArray 86)
section
variable {w : World} {v hh s : Nat}
theorem nwF_size : (nwF w v hh s).heap.size = w.heap.size + 2:=by unfold nwF;simp [size_setCells]
theorem nwF_below {B : Nat} (h : B <= hh) (h2 : B <= w.heap.size) : Below B w (nwF w v hh s) :=
  (below_set (below_set ((Below.refl _ _).alloc h2 _) h2 _ _) h _ _).alloc (by simp [size_setCells];omega) _
theorem nwF_range {b o : Nat} {cs : List Value} (h : w.rangeAt b o cs) (hne : b ≠ hh) (hlt : b < w.heap.size) : (nwF w v hh s).rangeAt b o cs :=
  World.rangeAt_alloc (range_setk (range_setk (World.rangeAt_alloc h _) (by omega)) hne) _
theorem nwF_xs {X g : Nat} (h : Xs X X 0 g w) (hne : g ≠ hh) (hlt : g < w.heap.size) : Xs X X 0 g (nwF w v hh s) :=
  ((((h.alloc _).setk (by omega)).setk hne).alloc _)
theorem take_len (hs : s <= 30) : ((mgL v).take s).length = s:=by rw [List.length_take,mgL_len];omega
theorem nwF_cells (h : w.there hh 0 s) (hs : s <= 30) (i : Nat) (hi : i < s) : (nwF w v hh s).cell? ⟨hh,i,none⟩ = some (.int .u32 (lim v i)):=by
  have ht : ((w.alloc (.cells (mgL 0).toArray 86)).setCells w.heap.size 0 (mgL v)).there hh 0 ((mgL v).take s).length:=by
    rw [take_len hs];exact World.there_setCells (World.there_alloc h _) _ _ _
  have hr:=World.rangeAt_setCells_same _ hh 0 ((mgL v).take s) ht
  have hr2:=World.rangeAt_alloc hr (.cells (mgL 0).toArray 86)
  exact cell_of_range hr2 (by rw [List.getElem?_take,if_pos hi];exact mgL_get (by omega))
theorem nwF_quot : (nwF w v hh s).rangeAt (w.heap.size + 1) 0 (mgL 0)/\(nwF w v hh s).there (w.heap.size + 1) 0 30 :=
  ⟨range_at (by simp [size_setCells]) _ 86,there_at (by simp [size_setCells]) _ 86 (by rw [mgL_len])⟩
end
structure Dv (w : World) (b7 h d v s : Nat) (W : World) : Prop where
  below : Below w.heap.size w W
  t2 : W.there (w.heap.size + 2) 0 30
  t3 : W.there (w.heap.size + 3) 0 30
  sc : W.rangeAt b7 0 (mgL d)
  dv : ∀ i,i < s->W.cell? ⟨h,i,none⟩ = some (.int .u32 (lim v i))
theorem Dv.oth {w W W' : World} {b7 h d v s x : Nat} (D : Dv w b7 h d v s W) (o : Oth x W W') (h1 : w.heap.size + 4 <= x) (h2 : b7 ≠ x) (h3 : h ≠ x) : Dv w b7 h d v s W' :=
  ⟨D.below.trans (o.below (by omega)),o.there (by omega) D.t2,o.there (by omega) D.t3,o.range h2 D.sc,fun i hi=>(o.cell (p:=⟨h,i,none⟩) h3).trans (D.dv i hi)⟩
theorem Dv.drewN {w W : World} {b7 h d v s n : Nat} (D : Dv w b7 h d v s W) : Dv w b7 h d v s (W.drewN n):=⟨below_drewN D.below,D.t2,D.t3,D.sc,D.dv⟩
theorem cells_keep {W w1 : World} {h v s : Nat} (hc : ∀ i,i < s->W.cell? ⟨h,i,none⟩ = some (.int .u32 (lim v i))) (hb : Below W.heap.size W w1) : ∀ i,i < s->w1.cell? ⟨h,i,none⟩ = some (.int .u32 (lim v i)):=fun i hi=>cell_keep (hc i hi) hb
section
variable {M v c s D g : Nat} {W : World}
theorem rem_le (M v c : Nat) : rem M v c <= rem M v (c + 1):=by rw [rem_succ];omega
theorem step_ok (hv0 : 0 < v) (hv : v < bb ^ s) (hq : D = lim (M / v) c) (h : Xs (rem M v (c + 1)) (tk (rem M v (c + 1)) D v c s) (c + s + 1) g W) : Xs (rem M v c) (rem M v c) 0 g W:=by
  obtain ⟨_,h2,h3⟩:=digit_ok hv0 hq
  have hs:=rem_small (M:=M) (c:=c) hv0 hv
  refine h.all (fun j _ hj=>?_) (fun j _ hj=>?_)
  · rw [tk_ok h2 j hj,h3]
  · rw [lim_of_lt' hs hj,lim_of_lt' (Nat.lt_of_le_of_lt (rem_le M v c) hs) hj]
theorem step_over (hv0 : 0 < v) (hv : v < bb ^ s) (hD : D < bb) (hq : D = lim (M / v) c + 1) (h : Xs (rem M v (c + 1)) (tk (rem M v (c + 1)) D v c s) (c + s + 1) g W) : Xs (tk (rem M v (c + 1)) D v c s) (tk (rem M v (c + 1)) D v c s) 0 g W:=by
  obtain ⟨h1,_⟩:=digit_over hv0 hq
  have hs:=rem_small (M:=M) (c:=c) hv0 hv
  have h5 : rem M v (c + 1) < D * v * bb ^ c:=(Nat.div_lt_iff_lt_mul (bb_pow_pos c)).1 h1
  have hY : tk (rem M v (c + 1)) D v c s < bb ^ (c + s + 1):=by unfold tk;have:=dv_lt (c:=c) hv hD;omega
  refine h.all (fun j _ hj=>rfl) (fun j _ hj=>?_)
  rw [lim_of_lt' hs hj,lim_of_lt' hY hj]
theorem step_back (hv0 : 0 < v) (hv : v < bb ^ s) (hD : D < bb) (hq : D = lim (M / v) c + 1) (h : Xs (tk (rem M v (c + 1)) D v c s) (tk (rem M v (c + 1)) D v c s + v * bb ^ c) (c + s + 1) g W) : Xs (rem M v c) (rem M v c) 0 g W:=by
  obtain ⟨h1,h2,h3,h4⟩:=digit_over hv0 hq
  have hs:=rem_small (M:=M) (c:=c) hv0 hv
  have h5 : rem M v (c + 1) < D * v * bb ^ c:=(Nat.div_lt_iff_lt_mul (bb_pow_pos c)).1 h1
  have hY : tk (rem M v (c + 1)) D v c s < bb ^ (c + s + 1):=by unfold tk;have:=dv_lt (c:=c) hv hD;omega
  refine h.all (fun j _ hj=>?_) (fun j _ hj=>?_)
  · rw [tk_back h4 hv hD h2,h3,lim_top_add _ _ _ _ hj]
  · rw [lim_of_lt' hY hj,lim_of_lt' (Nat.lt_of_le_of_lt (rem_le M v c) hs) hj]
end
end Go.Proofs.YtpbegoflpfdajaaGreatDoor

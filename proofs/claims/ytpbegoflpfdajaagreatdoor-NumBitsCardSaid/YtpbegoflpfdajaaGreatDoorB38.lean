/- WHAT IS PROVED: contracts of functions of the numbers package and laws for them, used by the last text of this claim. CONDITIONS: stated at each theorem. -/
import Derived.Test.YtpbegoflpfdajaaGreatDoorB37
namespace Go.Proofs.YtpbegoflpfdajaaGreatDoor
section
open Go.RowKit
open Qd (lims)
theorem row_other {w : World} {base : Nat} {e : TypeId} {size : Nat} {v : Value} {n : Nat} {xs : List Value} (h : w.ownsRow base e size v n xs) {b : Nat} (hb : b < base) : some b ≠ v.ownBlock:=fun e=>by
  have:=(h.lt b e.symm).1
  omega
theorem row_set {w : World} {base : Nat} {e : TypeId} {size : Nat} {v : Value} {n : Nat} {xs : List Value} (h : w.ownsRow base e size v n xs) {b : Nat} (hb : b < base) (o : Nat) (u : Value) : (w.setCell ⟨b,o,none⟩ u).ownsRow base e size v n xs :=
  h.kept (w':=w.setCell ⟨b,o,none⟩ u) (row:=some b) ⟨rfl,rfl,rfl,by simp,fun k _ hk=>Below.heap_setCell w _ _ k (fun e=>hk (by rw [e]))⟩ (.inr (row_other h hb).symm)
theorem grown_cell {w w' : World} {row : Option Nat} (hg : w.grownBy w' row) {b o : Nat} {v : Value} (h : w.cell? ⟨b,o,none⟩ = some v) (hne : some b ≠ row) : w'.cell? ⟨b,o,none⟩ = some v:=hg.cell h hne
theorem grown_frozen {w w' : World} {row : Option Nat} (hg : w.grownBy w' row) {b o : Nat} {f : Bool} (h : w.frozen? ⟨b,o,none⟩ = f) (hb : b < w.heap.size) (hne : some b ≠ row) : w'.frozen? ⟨b,o,none⟩ = f:=(World.frozen?_of_block (w:=w) (hg.block b hb hne)).trans h
theorem alloc_cell {w : World} {o : Obj} {b i : Nat} {v : Value} (h : w.cell? ⟨b,i,none⟩ = some v) (hb : b < w.heap.size) : (w.alloc o).cell? ⟨b,i,none⟩ = some v:=(World.cell?_of_block (w:=w) (Below.heap_alloc w o b hb)).trans h
theorem alloc_frozen {w : World} {o : Obj} {b i : Nat} {f : Bool} (h : w.frozen? ⟨b,i,none⟩ = f) (hb : b < w.heap.size) : (w.alloc o).frozen? ⟨b,i,none⟩ = f:=(World.frozen?_of_block (w:=w) (Below.heap_alloc w o b hb)).trans h
theorem set_cell {w : World} {b i o : Nat} {u v : Value} (h : w.cell? ⟨b,i,none⟩ = some v) (hne : i ≠ o) : (w.setCell ⟨b,o,none⟩ u).cell? ⟨b,i,none⟩ = some v:=by
  rw [World.cell?_setCell_other _ _ _ _ (by intro hh;injection hh with a b;exact hne b.symm)];exact h
theorem set_frozen {w : World} {a p : Addr} {u : Value} {f : Bool} (h : w.frozen? p = f) : (w.setCell a u).frozen? p = f:=by simpa using h
structure Bld (w : World) (D R : Nat) (b : Bool) (v : Value) (base k : Nat) (l : List Nat) (W : World) : Prop where
  c0 : W.cell? ⟨D,0,none⟩ = some (.bool b)
  c1 : W.cell? ⟨D,1,none⟩ = some v
  f0 : W.frozen? ⟨D,0,none⟩ = false
  f1 : W.frozen? ⟨D,1,none⟩ = false
  r0 : W.cell? ⟨R,0,none⟩ = some (.bool false)
  r1 : W.cell? ⟨R,1,none⟩ = some (.slice none 0 0)
  g0 : W.frozen? ⟨R,0,none⟩ = false
  g1 : W.frozen? ⟨R,1,none⟩ = false
  row : W.ownsRow base 3 1 v k (limV l)
  low : Below w.heap.size w W
  size : base <= W.heap.size
theorem Bld.more {w W W3 : World} {D R : Nat} {b : Bool} {v v' : Value} {base k : Nat} {l : List Nat} (h : Bld w D R b v base k l W) {o : Obj} {x : Int} (n : Nat) (hx : x = (n : Nat))
    (ho : W3.ownsRow base 3 1 v' (k + 1) (limV l ++ [.int .i64 x])) (hg : (W.alloc o).grownBy W3 v.ownBlock) (hD : D < base) (hR : R < D) (hw : w.heap.size <= R) : Bld w D R b v' base (k + 1) (l ++ [n]) (W3.setCell ⟨D,1,none⟩ v'):=by
  subst hx
  have hDs : D < W.heap.size:=Nat.lt_of_lt_of_le hD h.size
  have n1:=row_other h.row hD
  have n2:=row_other h.row (b:=R) (by omega)
  have hgs:=hg.size
  have hRD : R ≠ D:=by omega
  exact {
    c0:=set_cell (grown_cell hg (alloc_cell h.c0 hDs) n1) (by omega)
    c1:=World.cell?_setCell_same _ _ _ (grown_cell hg (alloc_cell h.c1 hDs) n1)
    f0:=set_frozen (grown_frozen hg (alloc_frozen h.f0 hDs) (by simp;omega) n1)
    f1:=set_frozen (grown_frozen hg (alloc_frozen h.f1 hDs) (by simp;omega) n1)
    r0:=cell_set (grown_cell hg (alloc_cell h.r0 (by omega)) n2) hRD
    r1:=cell_set (grown_cell hg (alloc_cell h.r1 (by omega)) n2) hRD
    g0:=set_frozen (grown_frozen hg (alloc_frozen h.g0 (by omega)) (by simp;omega) n2)
    g1:=set_frozen (grown_frozen hg (alloc_frozen h.g1 (by omega)) (by simp;omega) n2)
    row:=by rw [limV_snoc];exact row_set ho hD 1 v'
    low:=((h.low.alloc (Nat.le_trans (by omega) (Nat.le_of_lt hDs)) o).grown hg (by simp;omega) (fun j hj=>by have:=(h.row.lt j hj).1;omega)).setCell (p:=⟨D,1,none⟩) (by simp;omega) v'
    size:=by simp at hgs ⊢;have:=h.size;omega }
set_option maxHeartbeats 4000000 in
set_option maxRecDepth 100000 in
theorem refSmall_pos (n : Nat) (hn : n < 9223372036854775808) (w : World) : Calls Tryz.prog 68 #[.int .i64 (n : Int)] w fun e w'=>∃ v,e = .returned v/\BigAt w' v ((n : Int))/\Below w.heap.size w w':=by
  obtain ⟨i0,hi,hz0,hz1,hz2⟩:=info_parts Tryz.info3
  obtain ⟨⟨k00,k01⟩,⟨k10,k11⟩,kf0,kf1⟩:=cells2 w (.bool false) (.slice none 0 0) (.bool false) (.slice none 0 0) 74 74
  have dn : decide ((n : Int) < 0) = false:=by simp
  obtain ⟨t,ht⟩ : ∃ t : Int,(n : Int) = t:=⟨_,rfl⟩
  rw [ht] at dn ⊢
  have tb : -9223372036854775808 <= t/\t <= 9223372036854775807:=by omega
  obtain ⟨tb1,tb2⟩:=tb
  have HT:=Lib.hid ht
  clear ht
  go_enter Tryz.func68,Tryz.ntmps68
  go_wp2
  go_loopw [0] (fun i wr=>∃ k : Nat,∃ v,∃ N : Nat,i = .int .i64 (N : Int)/\n / Qd.bb ^ k = N/\(k = 0 ∨ Qd.bb ^ (k - 1) <= n)/\Bld w (w.heap.size + 1) w.heap.size false v (w.heap.size + 1 + 1) k (lims n k) wr) (fun i _=>(intOf i).natAbs)
  case atStart =>
    exact ⟨0,_,n,by rw [<- HT.out],by simp,Or.inl rfl,{ c0:=k10,c1:=k11,f0:=kf0,f1:=kf1,r0:=k00,r1:=k01,g0:=by go_simp,g1:=by go_simp,row:=World.ownsRow_nil _ _ _ _,low:=(by repeat' first | exact Below.refl _ _ | assumption | refine Below.setCell ?_ ?_ _ | refine Below.alloc ?_ ?_ _ | refine below_drewN ?_ | refine Below.drew ?_ | (simp;done) | (simp;omega)),size:=by simp }⟩
  case round =>
    obtain ⟨k,v,N,rfl,hN,hge,hB⟩:=hrel
    have hk : k <= 10:=by
      rcases hge with h | h
      · omega
      · apply Nat.le_of_not_lt;intro hl
        have h3:=Qd.pow_mono (i:=10) (j:=k - 1) (by omega)
        have h4 : Qd.bb ^ 10 = 10000000000000000000000000000000000000000:=by decide
        omega
    have HB:=Lib.hid hB
    have Hge:=Lib.hid hge
    clear hB hge
    by_cases h0' : N = 0
    · subst h0'
      have hnk : n < Qd.bb ^ k:=by
        apply Nat.lt_of_not_le;intro hl
        have:=Nat.div_le_div_right (c:=Qd.bb ^ k) hl
        rw [Nat.div_self (Qd.bb_pow_pos k)] at this
        omega
      have hk2:=Lib.hid (Qd.lsz_is hnk Hge.out)
      obtain ⟨p,c,rfl,_,_⟩:=(mg_of_row HB.out.row).parts
      obtain ⟨c0,c1,f0,f1,r0,r1,g0,g1,row,low,hs⟩:=HB.out
      have hm:=Lib.hid (mg_of_row row)
      clear row hN hnk
      have hfl:=Lib.hid dn
      clear dn
      go_wp2
      refine ret74 Tryz.results68 _ rfl (.bool false) (.slice p k c) (by go_simp) (by go_simp) rfl ?_
      refine ⟨_,rfl,⟨_,by rw [hfl.out],Mg.set2 (l:=lims t.natAbs (Qd.lsz t.natAbs)) ?_ r0 _ _⟩,(by repeat' first | exact Below.refl _ _ | assumption | refine Below.setCell ?_ ?_ _ | refine Below.alloc ?_ ?_ _ | refine below_drewN ?_ | refine Below.drew ?_ | (simp;done) | (simp;omega))⟩
      rw [show t.natAbs = n by have:=HT.out;omega,hk2.out]
      exact hm.out
    · have hlim : Qd.lim n k = N % 10000:=by unfold Qd.lim;rw [hN];rfl
      have hge2 : Qd.bb ^ k <= n:=by
        apply Nat.le_of_not_lt;intro hl
        rw [Nat.div_eq_of_lt hl] at hN
        omega
      have hN2 : n / Qd.bb ^ (k + 1) = N / 10000:=by rw [Nat.pow_succ,<- Nat.div_div_eq_div_mul,hN];rfl
      have hls:=Qd.lims_succ n k
      rw [hlim] at hls
      have hNn : N <= n:=by rw [<- hN];exact Nat.div_le_self _ _
      have HL:=Lib.hid hls;have HN2:=Lib.hid hN2;have HG2:=Lib.hid hge2
      obtain ⟨c0,c1,f0,f1,r0,r1,g0,g1,row,low,hs⟩:=HB.out
      have Hrow:=Lib.hid row
      have n1:=Lib.hid (row_other row (b:=w.heap.size + 1) (by omega))
      have hsz : w.heap.size + 1 < wr.heap.size:=by omega
      clear hls hN2 hge2 hlim hN row low
      have d0 : ((N : Int) != 0) = true:=by simp;omega
      have d1 : decide ((N : Int) % 10000 < 0) = false:=by simp;omega
      go_wp2_with (at_builtin;refine wpList_append_own _ rfl _ _ 72 rfl (w.heap.size + 1 + 1) 3 i0 (.int .i64 0) 1 8 Tryz.underlying72 hi hz0 hz1 hz2 rfl (by decide) _ _ _ rfl (Hrow.out.alloc _) ⟨wr.heap.size,0,none⟩ 1 1 [.int .i64 ((N : Int) % 10000)] rfl rfl (one_new1 wr _ _) (by simp [Value.oneCell']) (by unfold maxLen;omega) (by omega) (by simp;omega) ?_;intro v' w3 hown' hgrow _;obtain ⟨g',cap',rfl⟩:=ownsRow_succ hown';have HN:=Lib.hid (And.intro hown' hgrow);have e1:=grown_cell hgrow (alloc_cell c1 hsz) n1.out;have e2:=grown_frozen hgrow (alloc_frozen f1 hsz) (by simp;omega) n1.out;clear hown' hgrow)
      have hmore:=HB.out.more (N % 10000) (by omega) HN.out.1 HN.out.2 (by omega) (by omega) (Nat.le_refl _)
      rw [<- HL.out] at hmore
      have HM:=Lib.hid hmore
      clear hmore e1 e2
      go_wp2
      go_roundw
      case rel=>exact ⟨k + 1,_,N / 10000,by simp,HN2.out,Or.inr HG2.out,HM.out⟩
      case measure=>simp [intOf];omega
set_option maxHeartbeats 4000000 in
set_option maxRecDepth 100000 in
theorem refSmall_neg (n : Nat) (h0 : 0 < n) (hn : n <= 9223372036854775808) (w : World) : Calls Tryz.prog 68 #[.int .i64 (-(n : Int))] w fun e w'=>∃ v,e = .returned v/\BigAt w' v (-(n : Int))/\Below w.heap.size w w':=by
  obtain ⟨i0,hi,hz0,hz1,hz2⟩:=info_parts Tryz.info3
  obtain ⟨⟨k00,k01⟩,⟨k10,k11⟩,kf0,kf1⟩:=cells2 w (.bool false) (.slice none 0 0) (.bool true) (.slice none 0 0) 74 74
  have dn : decide (-(n : Int) < 0) = true:=by simp;omega
  obtain ⟨t,ht⟩ : ∃ t : Int,-(n : Int) = t:=⟨_,rfl⟩
  rw [ht] at dn ⊢
  have tb : -9223372036854775808 <= t/\t <= 9223372036854775807:=by omega
  obtain ⟨tb1,tb2⟩:=tb
  have HT:=Lib.hid ht
  clear ht
  go_enter Tryz.func68,Tryz.ntmps68
  go_wp2
  go_loopw [0] (fun i wr=>∃ k : Nat,∃ v,∃ N : Nat,i = .int .i64 (-(N : Int))/\n / Qd.bb ^ k = N/\(k = 0 ∨ Qd.bb ^ (k - 1) <= n)/\Bld w (w.heap.size + 1) w.heap.size true v (w.heap.size + 1 + 1) k (lims n k) wr) (fun i _=>(intOf i).natAbs)
  case atStart =>
    exact ⟨0,_,n,by rw [<- HT.out],by simp,Or.inl rfl,{ c0:=k10,c1:=k11,f0:=kf0,f1:=kf1,r0:=k00,r1:=k01,g0:=by go_simp,g1:=by go_simp,row:=World.ownsRow_nil _ _ _ _,low:=(by repeat' first | exact Below.refl _ _ | assumption | refine Below.setCell ?_ ?_ _ | refine Below.alloc ?_ ?_ _ | refine below_drewN ?_ | refine Below.drew ?_ | (simp;done) | (simp;omega)),size:=by simp }⟩
  case round =>
    obtain ⟨k,v,N,rfl,hN,hge,hB⟩:=hrel
    have hk : k <= 10:=by
      rcases hge with h | h
      · omega
      · apply Nat.le_of_not_lt;intro hl
        have h3:=Qd.pow_mono (i:=10) (j:=k - 1) (by omega)
        have h4 : Qd.bb ^ 10 = 10000000000000000000000000000000000000000:=by decide
        omega
    have HB:=Lib.hid hB
    have Hge:=Lib.hid hge
    clear hB hge
    by_cases h0' : N = 0
    · subst h0'
      have hnk : n < Qd.bb ^ k:=by
        apply Nat.lt_of_not_le;intro hl
        have:=Nat.div_le_div_right (c:=Qd.bb ^ k) hl
        rw [Nat.div_self (Qd.bb_pow_pos k)] at this
        omega
      have hk2:=Lib.hid (Qd.lsz_is hnk Hge.out)
      obtain ⟨p,c,rfl,_,_⟩:=(mg_of_row HB.out.row).parts
      obtain ⟨c0,c1,f0,f1,r0,r1,g0,g1,row,low,hs⟩:=HB.out
      have hm:=Lib.hid (mg_of_row row)
      clear row hN hnk
      have hfl:=Lib.hid dn
      clear dn
      go_wp2
      refine ret74 Tryz.results68 _ rfl (.bool true) (.slice p k c) (by go_simp) (by go_simp) rfl ?_
      refine ⟨_,rfl,⟨_,by rw [hfl.out],Mg.set2 (l:=lims t.natAbs (Qd.lsz t.natAbs)) ?_ r0 _ _⟩,(by repeat' first | exact Below.refl _ _ | assumption | refine Below.setCell ?_ ?_ _ | refine Below.alloc ?_ ?_ _ | refine below_drewN ?_ | refine Below.drew ?_ | (simp;done) | (simp;omega))⟩
      rw [show t.natAbs = n by have:=HT.out;omega,hk2.out]
      exact hm.out
    · have hlim : Qd.lim n k = N % 10000:=by unfold Qd.lim;rw [hN];rfl
      have hge2 : Qd.bb ^ k <= n:=by
        apply Nat.le_of_not_lt;intro hl
        rw [Nat.div_eq_of_lt hl] at hN
        omega
      have hN2 : n / Qd.bb ^ (k + 1) = N / 10000:=by rw [Nat.pow_succ,<- Nat.div_div_eq_div_mul,hN];rfl
      have hls:=Qd.lims_succ n k
      rw [hlim] at hls
      have hNn : N <= n:=by rw [<- hN];exact Nat.div_le_self _ _
      have HL:=Lib.hid hls;have HN2:=Lib.hid hN2;have HG2:=Lib.hid hge2
      obtain ⟨c0,c1,f0,f1,r0,r1,g0,g1,row,low,hs⟩:=HB.out
      have Hrow:=Lib.hid row
      have n1:=Lib.hid (row_other row (b:=w.heap.size + 1) (by omega))
      have hsz : w.heap.size + 1 < wr.heap.size:=by omega
      clear hls hN2 hge2 hlim hN row low
      have d0 : (-(N : Int) != 0) = true:=by simp;omega
      by_cases hr : N % 10000 = 0
      · have d1 : decide ((0 : Int) < (N : Int) % 10000) = false:=by simp;omega
        go_wp2_with (at_builtin;refine wpList_append_own _ rfl _ _ 72 rfl (w.heap.size + 1 + 1) 3 i0 (.int .i64 0) 1 8 Tryz.underlying72 hi hz0 hz1 hz2 rfl (by decide) _ _ _ rfl (Hrow.out.alloc _) ⟨wr.heap.size,0,none⟩ 1 1 [.int .i64 (-((N : Int) % 10000))] rfl rfl (one_new1 wr _ _) (by simp [Value.oneCell']) (by unfold maxLen;omega) (by omega) (by simp;omega) ?_;intro v' w3 hown' hgrow _;obtain ⟨g',cap',rfl⟩:=ownsRow_succ hown';have HN:=Lib.hid (And.intro hown' hgrow);have e1:=grown_cell hgrow (alloc_cell c1 hsz) n1.out;have e2:=grown_frozen hgrow (alloc_frozen f1 hsz) (by simp;omega) n1.out;clear hown' hgrow)
        have hmore:=HB.out.more (N % 10000) (by omega) HN.out.1 HN.out.2 (by omega) (by omega) (Nat.le_refl _)
        rw [<- HL.out] at hmore
        have HM:=Lib.hid hmore
        clear hmore e1 e2
        go_wp2
        go_roundw
        case rel=>exact ⟨k + 1,_,N / 10000,by congr 1,HN2.out,Or.inr HG2.out,HM.out⟩
        case measure=>simp [intOf];omega
      · have d1 : decide ((0 : Int) < (N : Int) % 10000) = true:=by simp;omega
        go_wp2_with (at_builtin;refine wpList_append_own _ rfl _ _ 72 rfl (w.heap.size + 1 + 1) 3 i0 (.int .i64 0) 1 8 Tryz.underlying72 hi hz0 hz1 hz2 rfl (by decide) _ _ _ rfl (Hrow.out.alloc _) ⟨wr.heap.size,0,none⟩ 1 1 [.int .i64 ((N : Int) % 10000)] rfl rfl (one_new1 wr _ _) (by simp [Value.oneCell']) (by unfold maxLen;omega) (by omega) (by simp;omega) ?_;intro v' w3 hown' hgrow _;obtain ⟨g',cap',rfl⟩:=ownsRow_succ hown';have HN:=Lib.hid (And.intro hown' hgrow);have e1:=grown_cell hgrow (alloc_cell c1 hsz) n1.out;have e2:=grown_frozen hgrow (alloc_frozen f1 hsz) (by simp;omega) n1.out;clear hown' hgrow)
        have hmore:=HB.out.more (N % 10000) (by omega) HN.out.1 HN.out.2 (by omega) (by omega) (Nat.le_refl _)
        rw [<- HL.out] at hmore
        have HM:=Lib.hid hmore
        clear hmore e1 e2
        go_wp2
        go_roundw
        case rel=>exact ⟨k + 1,_,N / 10000,by congr 1,HN2.out,Or.inr HG2.out,HM.out⟩
        case measure=>simp [intOf];omega
end
section
open Go.RowKit
open Qd (lims)
theorem valL_append (a : List UInt8) : ∀ b : List UInt8,valL (a ++ b) = valL a * 10 ^ b.length + valL b:=by
  intro b
  obtain ⟨n,hn⟩ : ∃ n,b.length = n:=⟨_,rfl⟩
  induction n generalizing b with
  | zero =>
    obtain rfl:=List.eq_nil_of_length_eq_zero hn
    simp [valL]
  | succ n ih =>
    obtain ⟨t,c,rfl⟩ : ∃ t c,b = t ++ [c]:=⟨b.dropLast,b.getLast (by intro e;rw [e] at hn;simp at hn),(List.dropLast_concat_getLast _).symm⟩
    have hl : t.length = n:=by simpa using hn
    rw [<- List.append_assoc,valL_snoc,valL_snoc,ih t hl]
    simp only [List.length_append,List.length_cons,List.length_nil,Nat.zero_add,Nat.pow_succ,Nat.add_mul,Nat.mul_assoc]
    omega
theorem valL_div (D : List UInt8) (hd : ∀ c ∈ D,isDig c = true) (e : Nat) (_he : e <= D.length) : valL D / 10 ^ (D.length - e) = valL (D.take e):=by
  have h1 : D = D.take e ++ D.drop e:=(List.take_append_drop e D).symm
  have h2 : valL (D.drop e) < 10 ^ (D.drop e).length:=valL_lt _ (fun c hc=>hd c (List.mem_of_mem_drop hc))
  have h3 : (D.drop e).length = D.length - e:=by simp
  conv=>lhs;rw [h1,valL_append,<- h1,h3]
  rw [h3] at h2
  rw [Nat.mul_comm,Nat.mul_add_div (Nat.pow_pos (by omega)),Nat.div_eq_of_lt h2,Nat.add_zero]
theorem bb_ten4 (k : Nat) : Qd.bb ^ k = 10 ^ (4 * k):=by
  rw [Nat.pow_mul];rfl
theorem lim_digits (D : List UInt8) (hd : ∀ c ∈ D,isDig c = true) (k e lo : Nat) (he : e + 4 * k = D.length) (hlo : lo = e - 4) : Qd.lim (valL D) k = valL ((D.take e).drop lo):=by
  unfold Qd.lim
  rw [bb_ten4,show 4 * k = D.length - e by omega,valL_div D hd e (by omega)]
  have h1 : D.take e = (D.take e).take lo ++ (D.take e).drop lo:=(List.take_append_drop lo _).symm
  have hl : ((D.take e).drop lo).length = e - lo:=by simp;omega
  have h2 : valL ((D.take e).drop lo) < 10 ^ (e - lo):=by
    rw [<- hl];exact valL_lt _ (fun c hc=>hd c (List.mem_of_mem_take (List.mem_of_mem_drop hc)))
  show valL (D.take e) % 10000 = _
  conv=>lhs;rw [h1,valL_append,hl]
  by_cases h4 : 4 <= e
  · rw [show e - lo = 4 by omega] at h2 ⊢
    rw [show (10 : Nat) ^ 4 = 10000 from rfl] at h2 ⊢
    omega
  · have : lo = 0:=by omega
    subst this
    have h5 : 10 ^ (e - 0) <= 10 ^ 4:=Nat.pow_le_pow_right (by omega) (by omega)
    rw [List.take_zero,show valL [] = 0 from rfl,Nat.zero_mul,Nat.zero_add]
    exact Nat.mod_eq_of_lt (by rw [show (10 : Nat) ^ 4 = 10000 from rfl] at h5;omega)
theorem valL_step (D : List UInt8) (lo i : Nat) (hlo : lo <= i) (hi : i < D.length) : valL ((D.take (i + 1)).drop lo) = 10 * valL ((D.take i).drop lo) + (D[i].toNat - 48):=by
  rw [List.take_succ_eq_append_getElem hi,List.drop_append_of_le_length (by simp;omega),valL_snoc,Nat.mul_comm]
theorem valL_small (D : List UInt8) (hd : ∀ c ∈ D,isDig c = true) (lo i : Nat) (h : i <= lo + 4) (hi : i <= D.length) : valL ((D.take i).drop lo) < 10000:=by
  have h2:=valL_lt ((D.take i).drop lo) (fun c hc=>hd c (List.mem_of_mem_take (List.mem_of_mem_drop hc)))
  have h3 : ((D.take i).drop lo).length <= 4:=by simp;omega
  have h5:=Nat.pow_le_pow_right (n:=10) (by omega) h3
  rw [show (10 : Nat) ^ 4 = 10000 from rfl] at h5
  omega
theorem valL_top (D : List UInt8) (hd : ∀ c ∈ D,isDig c = true) (k : Nat) (h : D.length <= 4 * k) : valL D < Qd.bb ^ k:=by
  rw [bb_ten4]
  exact Nat.lt_of_lt_of_le (valL_lt D hd) (Nat.pow_le_pow_right (by omega) h)
end
section
open Go.RowKit
open Qd (lims)
theorem get_of {T : ByteArray} {D : List UInt8} (h : T.data.toList = D) (i : Nat) (h1 : i < T.size) (h2 : i < D.length) : T[i]'h1 = D[i]:=by
  subst h
  simp;rfl
set_option maxHeartbeats 4000000 in
set_option maxRecDepth 100000 in
theorem refRead_p (s : ByteArray) (D : List UInt8) (hs : s.data.toList = D) (hm : D.head? ≠ some 45) (hd : ∀ c ∈ D,isDig c = true) (h0 : 0 < D.length) (hL : D.length <= 4000) (w : World) :
    Calls Tryz.prog 70 #[.string s] w fun e w'=>∃ v,e = .returned v/\BigAt w' v ((valL D : Int))/\Below w.heap.size w w':=by
  obtain ⟨i0,hi,hz0,hz1,hz2⟩:=info_parts Tryz.info3
  obtain ⟨⟨k00,k01⟩,⟨k10,k11⟩,kf0,kf1⟩:=cells2 w (.bool false) (.slice none 0 0) (.bool false) (.slice none 0 0) 74 74
  have hlim:=Lib.hid (fun k e lo he hlo=>lim_digits D hd k e lo he hlo)
  have htop:=Lib.hid (fun k h=>valL_top D hd k h)
  have hsml:=Lib.hid (fun lo i h hi=>valL_small D hd lo i h hi)
  have hstp:=Lib.hid (fun lo i h hi=>valL_step D lo i h hi)
  have Hd:=Lib.hid hd
  obtain ⟨L,hLL⟩ : ∃ L,D.length = L:=⟨_,rfl⟩
  have hsz : s.size = L:=by have:=congrArg List.length hs;simp at this;omega
  have hx : s.data.toList = D:=hs
  have hp0 : 0 < s.size:=by omega
  obtain ⟨c0,hc0⟩ : ∃ c,(s[0]'hp0).toNat = c:=⟨_,rfl⟩
  have h45 : ((c0 : Int) == 45) = false:=by
    obtain ⟨t,ht⟩:=at0 hp0
    rw [hs] at ht
    have hne : s[0]'hp0 ≠ 45:=by intro e;rw [e] at ht;exact hm (by rw [ht];rfl)
    have:=u8_ne (n:=45) (by omega) hne
    simp;omega
  have hget : ∀ i (h : i < s.size) (h2 : i < D.length),(s[i]'h) = D[i]:=fun i h h2=>get_of hx i h h2
  have Hget:=Lib.hid hget
  have Hx:=Lib.hid hx
  have HL:=Lib.hid hLL
  have hL2 : L <= 4000:=by omega
  have h02 : 0 < L:=by omega
  clear hd hget hx hs hL h0 hLL hm
  go_enter Tryz.func70,Tryz.ntmps70
  go_wp2
  go_loopw [4] (fun i wr=>∃ k : Nat,∃ v,∃ t : Int,i = .int .i64 t/\t = (L : Int) - 4 * (k : Int)/\k <= 1000/\Bld w (w.heap.size + 1) w.heap.size false v (w.heap.size + 1 + 1) k (lims (valL D) k) wr) (fun i _=>(intOf i).toNat)
  case atStart =>
    exact ⟨0,_,L,rfl,by simp,by omega,{ c0:=k10,c1:=k11,f0:=kf0,f1:=kf1,r0:=k00,r1:=k01,g0:=by go_simp,g1:=by go_simp,row:=World.ownsRow_nil _ _ _ _,low:=(by repeat' first | exact Below.refl _ _ | assumption | refine Below.setCell ?_ ?_ _ | refine Below.alloc ?_ ?_ _ | refine below_drewN ?_ | refine Below.drew ?_ | (simp;done) | (simp;omega)),size:=by simp }⟩
  case round =>
    obtain ⟨k,v,t,rfl,ht,hk,hB⟩:=hrel
    have HB:=Lib.hid hB
    clear hB
    by_cases hpos : 0 < t
    · obtain ⟨e,he⟩ : ∃ e : Nat,t = (e : Int):=⟨t.toNat,by omega⟩
      subst he
      have hek : e + 4 * k = L:=by omega
      have Ht:=Lib.hid ht
      clear ht
      obtain ⟨lo,hlo⟩ : ∃ lo,e - 4 = lo:=⟨_,rfl⟩
      have hmx : max (0 : Int) ((e : Int) - 4) = (lo : Int):=by omega
      have d0 : decide ((0 : Int) < (e : Int)) = true:=by simp;omega
      obtain ⟨c0',c1,f0,f1,r0,r1,g0,g1,row,low,hsw⟩:=HB.out
      have Hrow:=Lib.hid row
      have n1:=Lib.hid (row_other row (b:=w.heap.size + 1) (by omega))
      have hszw : w.heap.size + 1 < wr.heap.size:=by omega
      have hl:=hlim.out k e lo (by rw [HL.out];omega) hlo.symm
      have hls:=Qd.lims_succ (valL D) k
      rw [hl] at hls
      have HLS:=Lib.hid hls
      clear hl hls row low
      have Hlo:=Lib.hid hlo
      have hle : lo <= e/\e <= lo + 4:=by omega
      obtain ⟨hle1,hle2⟩:=hle
      clear hlo
      go_wp2
      go_loopw [5,6] (fun vl vi w2=>∃ i : Nat,lo <= i/\i <= e/\vi = .int .i64 i/\vl = .int .i64 (valL ((D.take i).drop lo) : Nat)/\w2 = wr) (fun _ vi _=>e - (intOf vi).toNat)
      case atStart=>exact ⟨lo,Nat.le_refl _,hle1,by first | rfl | (rw [hmx]),by rw [List.drop_of_length_le (by simp;omega)];rfl,rfl⟩
      case round =>
        obtain ⟨i,hi1,hi2,rfl,rfl,rfl⟩:=hrel
        by_cases hie : i < e
        · have hiL : i < L:=by omega
          have hp2 : i < s.size:=by rw [hsz];exact hiL
          have hstep:=hstp.out lo i hi1 (by rw [HL.out];exact hiL)
          have hsm:=hsml.out lo i (by omega) (by rw [HL.out];omega)
          have hsm2:=hsml.out lo (i + 1) (by omega) (by rw [HL.out];omega)
          have hdi:=Hd.out (D[i]'(by rw [HL.out];exact hiL)) (List.getElem_mem (by rw [HL.out];exact hiL))
          simp only [isDig,decide_eq_true_eq] at hdi
          have hgi:=Hget.out i hp2 (by rw [HL.out];exact hiL)
          rw [<- hgi] at hdi hstep
          obtain ⟨c,hc⟩ : ∃ c,(s[i]'hp2).toNat = c:=⟨_,rfl⟩
          rw [hc] at hdi hstep
          obtain ⟨hd1,hd2⟩:=hdi
          obtain ⟨x,hx0⟩ : ∃ x,valL ((D.take i).drop lo) = x:=⟨_,rfl⟩
          rw [hx0] at hstep hsm ⊢
          rw [hstep] at hsm2
          have Hst:=Lib.hid hstep
          clear hstep hgi hx0
          have d1 : decide ((i : Int) < (e : Int)) = true:=by simp;omega
          go_wp2
          go_roundw
          case rel=>exact ⟨i + 1,by omega,by omega,by go_num,by rw [Hst.out];congr 1;omega,by first | rfl | trivial⟩
          case measure=>simp [intOf];omega
        · have hie2 : i = e:=by omega
          subst hie2
          have d1 : decide ((i : Int) < (i : Int)) = false:=by simp
          have hsm:=hsml.out lo i (by omega) (by rw [HL.out];omega)
          obtain ⟨x,hx0⟩ : ∃ x,valL ((D.take i).drop lo) = x:=⟨_,rfl⟩
          rw [hx0] at HLS hsm ⊢
          clear hx0
          go_wp2_with (at_builtin;refine wpList_append_own _ rfl _ _ 72 rfl (w.heap.size + 1 + 1) 3 i0 (.int .i64 0) 1 8 Tryz.underlying72 hi hz0 hz1 hz2 rfl (by decide) _ _ _ rfl (Hrow.out.alloc _) ⟨wr.heap.size,0,none⟩ 1 1 [.int .i64 (x : Int)] rfl rfl (one_new1 wr _ _) (by simp [Value.oneCell']) (by unfold maxLen;omega) (by omega) (by simp;omega) ?_;intro v' w3 hown' hgrow _;obtain ⟨g',cap',rfl⟩:=ownsRow_succ hown';have HN:=Lib.hid (And.intro hown' hgrow);have e1:=grown_cell hgrow (alloc_cell c1 hszw) n1.out;have e2:=grown_frozen hgrow (alloc_frozen f1 hszw) (by simp;omega) n1.out;clear hown' hgrow)
          have hmore:=HB.out.more x rfl HN.out.1 HN.out.2 (by omega) (by omega) (Nat.le_refl _)
          rw [<- HLS.out] at hmore
          have HM:=Lib.hid hmore
          clear hmore e1 e2
          go_wp2
          go_roundw
          case rel=>exact ⟨k + 1,_,(i : Int) - 4,by first | rfl | go_num,by have:=Ht.out;simp;omega,by omega,HM.out⟩
          case measure=>simp [intOf];omega
    · have d0 : decide (0 < t) = false:=by simp;omega
      have hV:=htop.out k (by rw [HL.out];omega)
      obtain ⟨p,c,rfl,_,_⟩:=(mg_of_row HB.out.row).parts
      obtain ⟨c0',c1,f0,f1,r0,r1,g0,g1,row,low,hsw⟩:=HB.out
      have ct:=refTrim_any false _ (valL D) k (by omega) hV wr (mg_of_row row)
      have CT:=Lib.hid ct
      have hlow:=low
      have hls:=low.size
      clear row ct hV
      go_wp2_with (go_at_call 144;(with_reducible refine (CT.out).mono ?_);rintro e w2 ⟨v,rfl,hm2,hb2⟩;obtain ⟨p3,c3,rfl,_,_⟩:=hm2.parts;have l0:=cell_kept r0 hb2;have l1:=cell_kept r1 hb2;have lf0:=frozen_kept g0 hb2 (by simp;omega);have lf1:=frozen_kept g1 hb2 (by simp;omega);have HM2:=Lib.hid hm2;have HB2:=Lib.hid (low.trans (hb2.mono low.size));clear hm2 hb2)
      refine ret74 Tryz.results70 _ rfl (.bool (false && !decide (valL D = 0))) (.slice p3 (Qd.lsz (valL D)) c3) (by go_simp) (by go_simp) rfl ?_
      exact ⟨_,rfl,⟨_,by rw [show decide (((valL D : Int)) < 0) = (false && !decide (valL D = 0)) from (dec_of (by simp)).symm],Mg.set2 (l:=lims ((valL D : Int)).natAbs (Qd.lsz ((valL D : Int)).natAbs)) (by rw [show ((valL D : Int)).natAbs = valL D by omega];exact HM2.out) l0 _ _⟩,by have hlw:=HB2.out;exact (by repeat' first | exact Below.refl _ _ | assumption | refine Below.setCell ?_ ?_ _ | refine Below.alloc ?_ ?_ _ | refine below_drewN ?_ | refine Below.drew ?_ | (simp;done) | (simp;omega))⟩
set_option maxHeartbeats 4000000 in
set_option maxRecDepth 100000 in
theorem refRead_m (s : ByteArray) (D : List UInt8) (hs : s.data.toList = 45 :: D) (hd : ∀ c ∈ D,isDig c = true) (h0 : 0 < D.length) (hL : D.length <= 4000) (w : World) :
    Calls Tryz.prog 70 #[.string s] w fun e w'=>∃ v,e = .returned v/\BigAt w' v (-(valL D : Int))/\Below w.heap.size w w':=by
  obtain ⟨i0,hi,hz0,hz1,hz2⟩:=info_parts Tryz.info3
  obtain ⟨⟨k00,k01⟩,⟨k10,k11⟩,kf0,kf1⟩:=cells2 w (.bool false) (.slice none 0 0) (.bool true) (.slice none 0 0) 74 74
  have hlim:=Lib.hid (fun k e lo he hlo=>lim_digits D hd k e lo he hlo)
  have htop:=Lib.hid (fun k h=>valL_top D hd k h)
  have hsml:=Lib.hid (fun lo i h hi=>valL_small D hd lo i h hi)
  have hstp:=Lib.hid (fun lo i h hi=>valL_step D lo i h hi)
  have Hd:=Lib.hid hd
  obtain ⟨L,hLL⟩ : ∃ L,D.length = L:=⟨_,rfl⟩
  have hss : s.size = D.length + 1:=by have:=congrArg List.length hs;simpa using this
  have hx : (s.extract 1 s.size).data.toList = D:=by simp [hs,hss]
  have hsz : (s.extract 1 s.size).size = L:=by rw [<- hLL];have:=congrArg List.length hx;simpa using this
  have hp0 : 0 < s.size:=by omega
  have hb0 : (s[0]'hp0).toNat = 45:=by
    obtain ⟨t,ht⟩:=at0 hp0
    rw [hs] at ht
    rw [<- (List.cons.inj ht).1];rfl
  have h45' : s[0]'hp0 = 45:=UInt8.toNat_inj.1 (by rw [hb0];rfl)
  have h1s : 1 <= s.size:=by omega
  have hget : ∀ i (h : i < (s.extract 1 s.size).size) (h2 : i < D.length),((s.extract 1 s.size)[i]'h) = D[i]:=fun i h h2=>get_of hx i h h2
  have Hget:=Lib.hid hget
  have Hx:=Lib.hid hx
  have HL:=Lib.hid hLL
  have hL2 : L <= 4000:=by omega
  have h02 : 0 < L:=by omega
  clear hd hget hx hs hL h0 hLL hss
  go_enter Tryz.func70,Tryz.ntmps70
  go_wp2
  go_loopw [4] (fun i wr=>∃ k : Nat,∃ v,∃ t : Int,i = .int .i64 t/\t = (L : Int) - 4 * (k : Int)/\k <= 1000/\Bld w (w.heap.size + 1) w.heap.size true v (w.heap.size + 1 + 1) k (lims (valL D) k) wr) (fun i _=>(intOf i).toNat)
  case atStart =>
    exact ⟨0,_,L,rfl,by simp,by omega,{ c0:=k10,c1:=k11,f0:=kf0,f1:=kf1,r0:=k00,r1:=k01,g0:=by go_simp,g1:=by go_simp,row:=World.ownsRow_nil _ _ _ _,low:=(by repeat' first | exact Below.refl _ _ | assumption | refine Below.setCell ?_ ?_ _ | refine Below.alloc ?_ ?_ _ | refine below_drewN ?_ | refine Below.drew ?_ | (simp;done) | (simp;omega)),size:=by simp }⟩
  case round =>
    obtain ⟨k,v,t,rfl,ht,hk,hB⟩:=hrel
    have HB:=Lib.hid hB
    clear hB
    by_cases hpos : 0 < t
    · obtain ⟨e,he⟩ : ∃ e : Nat,t = (e : Int):=⟨t.toNat,by omega⟩
      subst he
      have hek : e + 4 * k = L:=by omega
      have Ht:=Lib.hid ht
      clear ht
      obtain ⟨lo,hlo⟩ : ∃ lo,e - 4 = lo:=⟨_,rfl⟩
      have hmx : max (0 : Int) ((e : Int) - 4) = (lo : Int):=by omega
      have d0 : decide ((0 : Int) < (e : Int)) = true:=by simp;omega
      obtain ⟨c0',c1,f0,f1,r0,r1,g0,g1,row,low,hsw⟩:=HB.out
      have Hrow:=Lib.hid row
      have n1:=Lib.hid (row_other row (b:=w.heap.size + 1) (by omega))
      have hszw : w.heap.size + 1 < wr.heap.size:=by omega
      have hl:=hlim.out k e lo (by rw [HL.out];omega) hlo.symm
      have hls:=Qd.lims_succ (valL D) k
      rw [hl] at hls
      have HLS:=Lib.hid hls
      clear hl hls row low
      have Hlo:=Lib.hid hlo
      have hle : lo <= e/\e <= lo + 4:=by omega
      obtain ⟨hle1,hle2⟩:=hle
      clear hlo
      go_wp2
      go_loopw [5,6] (fun vl vi w2=>∃ i : Nat,lo <= i/\i <= e/\vi = .int .i64 i/\vl = .int .i64 (valL ((D.take i).drop lo) : Nat)/\w2 = wr) (fun _ vi _=>e - (intOf vi).toNat)
      case atStart=>exact ⟨lo,Nat.le_refl _,hle1,by first | rfl | (rw [hmx]),by rw [List.drop_of_length_le (by simp;omega)];rfl,rfl⟩
      case round =>
        obtain ⟨i,hi1,hi2,rfl,rfl,rfl⟩:=hrel
        by_cases hie : i < e
        · have hiL : i < L:=by omega
          have hp2 : i < (s.extract 1 s.size).size:=by rw [hsz];exact hiL
          have hstep:=hstp.out lo i hi1 (by rw [HL.out];exact hiL)
          have hsm:=hsml.out lo i (by omega) (by rw [HL.out];omega)
          have hsm2:=hsml.out lo (i + 1) (by omega) (by rw [HL.out];omega)
          have hdi:=Hd.out (D[i]'(by rw [HL.out];exact hiL)) (List.getElem_mem (by rw [HL.out];exact hiL))
          simp only [isDig,decide_eq_true_eq] at hdi
          have hgi:=Hget.out i hp2 (by rw [HL.out];exact hiL)
          rw [<- hgi] at hdi hstep
          obtain ⟨c,hc⟩ : ∃ c,((s.extract 1 s.size)[i]'hp2).toNat = c:=⟨_,rfl⟩
          rw [hc] at hdi hstep
          obtain ⟨hd1,hd2⟩:=hdi
          obtain ⟨x,hx0⟩ : ∃ x,valL ((D.take i).drop lo) = x:=⟨_,rfl⟩
          rw [hx0] at hstep hsm ⊢
          rw [hstep] at hsm2
          have Hst:=Lib.hid hstep
          clear hstep hgi hx0
          have d1 : decide ((i : Int) < (e : Int)) = true:=by simp;omega
          go_wp2
          go_roundw
          case rel=>exact ⟨i + 1,by omega,by omega,by go_num,by rw [Hst.out];congr 1;omega,by first | rfl | trivial⟩
          case measure=>simp [intOf];omega
        · have hie2 : i = e:=by omega
          subst hie2
          have d1 : decide ((i : Int) < (i : Int)) = false:=by simp
          have hsm:=hsml.out lo i (by omega) (by rw [HL.out];omega)
          obtain ⟨x,hx0⟩ : ∃ x,valL ((D.take i).drop lo) = x:=⟨_,rfl⟩
          rw [hx0] at HLS hsm ⊢
          clear hx0
          go_wp2_with (at_builtin;refine wpList_append_own _ rfl _ _ 72 rfl (w.heap.size + 1 + 1) 3 i0 (.int .i64 0) 1 8 Tryz.underlying72 hi hz0 hz1 hz2 rfl (by decide) _ _ _ rfl (Hrow.out.alloc _) ⟨wr.heap.size,0,none⟩ 1 1 [.int .i64 (x : Int)] rfl rfl (one_new1 wr _ _) (by simp [Value.oneCell']) (by unfold maxLen;omega) (by omega) (by simp;omega) ?_;intro v' w3 hown' hgrow _;obtain ⟨g',cap',rfl⟩:=ownsRow_succ hown';have HN:=Lib.hid (And.intro hown' hgrow);have e1:=grown_cell hgrow (alloc_cell c1 hszw) n1.out;have e2:=grown_frozen hgrow (alloc_frozen f1 hszw) (by simp;omega) n1.out;clear hown' hgrow)
          have hmore:=HB.out.more x rfl HN.out.1 HN.out.2 (by omega) (by omega) (Nat.le_refl _)
          rw [<- HLS.out] at hmore
          have HM:=Lib.hid hmore
          clear hmore e1 e2
          go_wp2
          go_roundw
          case rel=>exact ⟨k + 1,_,(i : Int) - 4,by first | rfl | go_num,by have:=Ht.out;simp;omega,by omega,HM.out⟩
          case measure=>simp [intOf];omega
    · have d0 : decide (0 < t) = false:=by simp;omega
      have hV:=htop.out k (by rw [HL.out];omega)
      obtain ⟨p,c,rfl,_,_⟩:=(mg_of_row HB.out.row).parts
      obtain ⟨c0',c1,f0,f1,r0,r1,g0,g1,row,low,hsw⟩:=HB.out
      have ct:=refTrim_any true _ (valL D) k (by omega) hV wr (mg_of_row row)
      have CT:=Lib.hid ct
      have hlow:=low
      have hls:=low.size
      clear row ct hV
      go_wp2_with (go_at_call 144;(with_reducible refine (CT.out).mono ?_);rintro e w2 ⟨v,rfl,hm2,hb2⟩;obtain ⟨p3,c3,rfl,_,_⟩:=hm2.parts;have l0:=cell_kept r0 hb2;have l1:=cell_kept r1 hb2;have lf0:=frozen_kept g0 hb2 (by simp;omega);have lf1:=frozen_kept g1 hb2 (by simp;omega);have HM2:=Lib.hid hm2;have HB2:=Lib.hid (low.trans (hb2.mono low.size));clear hm2 hb2)
      refine ret74 Tryz.results70 _ rfl (.bool (true && !decide (valL D = 0))) (.slice p3 (Qd.lsz (valL D)) c3) (by go_simp) (by go_simp) rfl ?_
      exact ⟨_,rfl,⟨_,by rw [show decide ((-(valL D : Int)) < 0) = (true && !decide (valL D = 0)) from (dec_of (by simp;omega)).symm],Mg.set2 (l:=lims (-(valL D : Int)).natAbs (Qd.lsz (-(valL D : Int)).natAbs)) (by rw [show (-(valL D : Int)).natAbs = valL D by omega];exact HM2.out) l0 _ _⟩,by have hlw:=HB2.out;exact (by repeat' first | exact Below.refl _ _ | assumption | refine Below.setCell ?_ ?_ _ | refine Below.alloc ?_ ?_ _ | refine below_drewN ?_ | refine Below.drew ?_ | (simp;done) | (simp;omega))⟩
end
end Go.Proofs.YtpbegoflpfdajaaGreatDoor
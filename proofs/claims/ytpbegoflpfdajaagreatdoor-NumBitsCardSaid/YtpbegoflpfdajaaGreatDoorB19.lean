/- WHAT IS PROVED: contracts of functions of the numbers package and laws for them, used by the last text of this claim. CONDITIONS: stated at each theorem. -/
import Derived.Test.YtpbegoflpfdajaaGreatDoorB18
import Derived.Test.YtpbegoflpfdajaaGreatDoorB07
namespace Go.Proofs.YtpbegoflpfdajaaGreatDoor
section
open Go.RowKit
theorem wld86 {op : Oper} {a : Act} {w : World} {K : Act->World->Prop} {Q : Exit->Act->World->Prop} (b o : Nat) (n : Nat) (ho : ∃ x,op.op = .load 86 x/\a.eval x = .pointer (some ⟨b,o,none⟩)) (hc : w.rangeAt b o (mgL n)) (h : K (a.put op.dst (.agg (mgL n).toArray)) w) : op.wp Tryz.prog a w K Q :=
  let ⟨x,h1,h2⟩:=ho;wp_load_mid 86 x h1 b o h2 (mgL n) _ hc Tryz.underlying86 rfl (by rw [mgL_len];exact i86) h
/-! a number, read off its block -/
def limW (w : World) (b i : Nat) : Nat:=match w.cell? ⟨b,i,none⟩ with | some (.int _ v)=>v.toNat | _=>0
def valW (w : World) (b : Nat) : Nat->Nat
  | 0=>0
  | k + 1=>valW w b k + bb ^ k * limW w b k
theorem valW_mod {w : World} {b n : Nat} (h : w.rangeAt b 0 (mgL n)) : ∀ k,k <= 30->valW w b k = n % bb ^ k
  | 0,_=>by simp [valW,Nat.mod_one]
  | k + 1,hk=>by
    have hc:=cell_of_range h (mgL_get (n:=n) (i:=k) (by omega))
    rw [valW,valW_mod h k (by omega),mod_pow_succ]
    unfold limW;rw [hc];simp
theorem valW_eq {w : World} {b n : Nat} (h : w.rangeAt b 0 (mgL n)) (hn : n < bb ^ 30) : valW w b 30 = n:=by rw [valW_mod h 30 (Nat.le_refl _),Nat.mod_eq_of_lt hn]
structure Gc (w : World) (p q : Nat) (W : World) : Prop where
  below : Below w.heap.size w W
  r0 : W.rangeAt w.heap.size 0 (mgL p)
  t0 : W.there w.heap.size 0 30
  r1 : W.rangeAt (w.heap.size + 1) 0 (mgL q)
  t1 : W.there (w.heap.size + 1) 0 30
  t2 : W.there (w.heap.size + 2) 0 30
theorem Gc.keep {w W W' : World} {p q : Nat} (g : Gc w p q W) (h : Below W.heap.size W W') : Gc w p q W' :=
  ⟨g.below.trans (h.mono g.below.size),range_keep g.r0 h,there_keep g.t0 h,range_keep g.r1 h,there_keep g.t1 h,there_keep g.t2 h⟩
theorem Gc.drew {w W : World} {p q : Nat} (g : Gc w p q W) : Gc w p q W.drew:=⟨g.below.drew,g.r0,g.t0,g.r1,g.t1,g.t2⟩
theorem wp_region_drew {Q : Exit->Act->World->Prop} {P : Program} {id : Nat} {ops : Array Oper} {a : Act} {w : World} (hm : P.follows .mixedOrders = true) (h : wpAny P .any ops Q ops.size (Array.replicate ops.size false) a w.drew) : (Code.region id ops true).wp P Q a w:=wp_region_any hm h
def nw2 (w : World) (a b : Nat) : World:=(((w.alloc (.cells (mgL 0).toArray 86)).alloc (.cells (mgL 0).toArray 86)).setCells w.heap.size 0 (mgL a)).setCells (w.heap.size + 1) 0 (mgL b)
theorem nw2_old (w : World) (a b : Nat) : Below w.heap.size w (nw2 w a b):=below_set (below_set (((Below.refl _ _).alloc (Nat.le_refl _) _).alloc (by simp) _) (Nat.le_refl _) _ _) (by omega) _ _
theorem nw2_at1 (w : World) (a b : Nat) : (nw2 w a b).rangeAt (w.heap.size + 1) 0 (mgL b):=range_set (World.there_setCells (gd_there1 w) _ _ _) (by rw [mgL_len])
theorem nw2_size (w : World) (a b : Nat) : (nw2 w a b).heap.size = w.heap.size + 2:=by unfold nw2;simp [size_setCells]
theorem Gc.step {w W : World} {p q r : Nat} (g : Gc w p q W) : Gc w q r ((W.setCells w.heap.size 0 (mgL q)).setCells (w.heap.size + 1) 0 (mgL r)) :=
  ⟨below_set (below_set g.below (Nat.le_refl _) _ _) (by omega) _ _,range_setk (range_set g.t0 (by rw [mgL_len])) (by omega),World.there_setCells (World.there_setCells g.t0 _ _ _) _ _ _,
   range_set (World.there_setCells g.t1 _ _ _) (by rw [mgL_len]),World.there_setCells (World.there_setCells g.t1 _ _ _) _ _ _,World.there_setCells (World.there_setCells g.t2 _ _ _) _ _ _⟩
set_option maxHeartbeats 4000000 in
set_option maxRecDepth 20000 in
theorem gcd_any (m o : Nat) (hm : m < bb ^ 29) (ho : o < bb ^ 29) (w : World) :
    Calls Tryz.prog 96 #[.agg (mgL m).toArray,.agg (mgL o).toArray] w fun e w'=>e = .returned (.agg (mgL (Nat.gcd m o)).toArray)/\Below w.heap.size w w':=by
  have Hm:=Lib.hid hm;have Ho:=Lib.hid ho
  have G0:=Lib.hid (show Gc w m o (((w.alloc (.cells (mgL m).toArray 86)).alloc (.cells (mgL o).toArray 86)).alloc (.cells (mgL 0).toArray 86)) from ⟨(((Below.refl w.heap.size w).alloc (Nat.le_refl _) _).alloc (by simp) _).alloc (by simp;omega) _,World.rangeAt_alloc (World.rangeAt_alloc (range_new w _ 86) _) _,World.there_alloc (World.there_alloc (there_at rfl _ 86 (by rw [mgL_len])) _) _,
    World.rangeAt_alloc (range_at (by simp) _ 86) _,World.there_alloc (there_at (by simp) _ 86 (by rw [mgL_len])) _,there_at (by simp) _ 86 (by rw [mgL_len])⟩)
  have hs3 : (((w.alloc (.cells (mgL m).toArray 86)).alloc (.cells (mgL o).toArray 86)).alloc (.cells (mgL 0).toArray 86)).heap.size = w.heap.size + 3:=by simp
  have Hs3:=Lib.hid (show w.heap.size + 3 <= (((w.alloc (.cells (mgL m).toArray 86)).alloc (.cells (mgL o).toArray 86)).alloc (.cells (mgL 0).toArray 86)).heap.size by omega)
  clear hm ho hs3
  go_enter Tryz.func96,Tryz.ntmps96
  go_wp2_with (first
    | ((with_reducible refine al_zb 86 _ (w.heap.size + 2) ?_ ?_ z86 ?_);(· exact ⟨rfl,rfl⟩);· (simp;done)))
  try simp only [Act.put,List.setIfInBounds_toArray,List.set_cons_zero,List.set_cons_succ]
  go_loopw [9] (fun _ wr=>∃ p q : Nat,p < bb ^ 29/\q < bb ^ 29/\Nat.gcd p q = Nat.gcd m o/\Gc w p q wr/\w.heap.size + 3 <= wr.heap.size) (fun _ wr=>valW wr (w.heap.size + 1) 30)
  case atStart=>exact ⟨m,o,Hm.out,Ho.out,rfl,G0.out,Hs3.out⟩
  case round =>
    obtain ⟨p,q,hp,hq,hg,G,hsz⟩:=hrel
    have hq30 : q < bb ^ 30:=Nat.lt_of_lt_of_le hq (pow_mono (by omega))
    have Hval:=Lib.hid (valW_eq G.r1 hq30)
    have cs:=fun w=>size_any q hq30 w
    by_cases hbig : 2 < lsz q
    · have t1 : decide ((lsz q : Int) > 2) = true:=by simp;omega
      have hq0 : 0 < q:=Nat.pos_of_ne_zero (fun h=>by subst h;rw [lsz_zero] at hbig;omega)
      obtain ⟨s,hs⟩ : ∃ s,lsz q = s:=⟨_,rfl⟩
      rw [hs] at t1 cs
      have Cs:=Lib.hid cs
      have Cd:=Lib.hid (fun w=>divide_all p q hp hq30 hq0 w)
      have Hlt:=Lib.hid (Nat.mod_lt p hq0)
      have Hgr:=Lib.hid (show Nat.gcd q (p % q) = Nat.gcd m o by rw [<- hg,Nat.gcd_comm p,Nat.gcd_rec q p,Nat.gcd_comm])
      have HG:=Lib.hid G;have Hq:=Lib.hid hq
      clear cs hbig hq0 hs G hp hq hg hq30
      go_wp2_with (first
        | ((with_reducible refine ld86 (w.heap.size + 1) 0 q ?_ ?_ ?_);(· exact ⟨rfl,_,rfl,rfl⟩);· first | exact HG.out.r1 | exact range_keep HG.out.r1 HB1.out)
        | ((with_reducible refine ld86 w.heap.size 0 p ?_ ?_ ?_);(· exact ⟨rfl,_,rfl,rfl⟩);· exact range_keep HG.out.r0 HB1.out)
        | (go_at_call 159;(with_reducible refine (Cs.out _).mono ?_);rintro e w1 ⟨rfl,hb1⟩;have HB1:=Lib.hid hb1;clear hb1)
        | (go_at_call 154;(with_reducible refine (Cd.out _).mono ?_);rintro e w3 ⟨rfl,hb3⟩;have HB3:=Lib.hid (HB1.out.trans (hb3.mono HB1.out.size));clear hb3)
        | ((with_reducible refine al_zb 86 _ w3.heap.size ?_ ?_ z86 ?_);(· exact ⟨rfl,rfl⟩);· rfl)
        | ((with_reducible refine al_zb 86 _ (w3.heap.size + 1) ?_ ?_ z86 ?_);(· exact ⟨rfl,rfl⟩);· (simp;done))
        | ((with_reducible refine st86 w3.heap.size 0 (p / q) ?_ ?_ ?_);(· exact ⟨rfl,_,_,rfl,rfl,rfl⟩);· exact gd_there0 w3)
        | ((with_reducible refine st86 (w3.heap.size + 1) 0 (p % q) ?_ ?_ ?_);(· exact ⟨rfl,_,_,rfl,rfl,rfl⟩);· exact World.there_setCells (gd_there1 w3) _ _ _))
      try simp only [Act.put,List.setIfInBounds_toArray,List.set_cons_zero,List.set_cons_succ]
      have hz3:=HB3.out.size
      have G2:=(HG.out.keep (HB3.out.trans ((nw2_old w3 (p / q) (p % q)).mono hz3))).drew
      have R6 : (nw2 w3 (p / q) (p % q)).drew.rangeAt (w3.heap.size + 1) 0 (mgL (p % q)):=nw2_at1 w3 (p / q) (p % q)
      have hne : w3.heap.size + 1 ≠ w.heap.size:=by omega
      have FIN:=G2.step (r:=p % q)
      have FV:=valW_eq FIN.r1 (Nat.lt_trans Hlt.out (Nat.lt_of_lt_of_le Hq.out (pow_mono (by omega))))
      have FS : w.heap.size + 3 <= (((nw2 w3 (p / q) (p % q)).drew.setCells w.heap.size 0 (mgL q)).setCells (w.heap.size + 1) 0 (mgL (p % q))).heap.size:=by rw [size_setCells,size_setCells];have h9 : (nw2 w3 (p / q) (p % q)).drew.heap.size = w3.heap.size + 2:=nw2_size w3 (p / q) (p % q);omega
      have G2:=Lib.hid G2;have R6:=Lib.hid R6;have FIN:=Lib.hid FIN;have FV:=Lib.hid FV;have FS:=Lib.hid FS
      clear hz3
      refine wp_region_drew (by kernel_rfl) ?_
      refine wpAny_ready (rs:=[0,1]) (by kernel_rfl) (by simp) ?_
      refine AllReady.cons rfl (fun K hK=>?_) ?_
      · simp only [List.getElem_toArray,List.getElem_cons_zero]
        rw [if_pos (by rfl)]
        refine wld86 (w.heap.size + 1) 0 q ⟨_,rfl,rfl⟩ G2.out.r1 ?_
        refine hK _ _ ?_;clear hK K
        try simp only [Act.put,List.setIfInBounds_toArray,List.set_cons_zero,List.set_cons_succ]
        refine wpAny_ready (rs:=[1,2]) (by kernel_rfl) (by simp) ?_
        refine AllReady.cons rfl (fun K hK=>?_) ?_
        · simp only [List.getElem_toArray,List.getElem_cons_succ,List.getElem_cons_zero]
          rw [if_pos (by rfl)]
          refine wld86 (w3.heap.size + 1) 0 (p % q) ⟨_,rfl,rfl⟩ R6.out ?_
          refine hK _ _ ?_;clear hK K
          try simp only [Act.put,List.setIfInBounds_toArray,List.set_cons_zero,List.set_cons_succ]
          refine wpAny_ready (rs:=[2]) (by kernel_rfl) (by simp) ?_
          refine AllReady.cons rfl (fun K hK=>?_) AllReady.nil
          simp only [List.getElem_toArray,List.getElem_cons_succ,List.getElem_cons_zero]
          rw [if_pos (by rfl)]
          refine wst86 w.heap.size 0 q ⟨_,_,rfl,rfl,rfl⟩ G2.out.t0 ?_
          refine hK _ _ ?_;clear hK K
          try simp only [Act.put]
          refine wpAny_ready (rs:=[3]) (by kernel_rfl) (by simp) ?_
          refine AllReady.cons rfl (fun K hK=>?_) AllReady.nil
          simp only [List.getElem_toArray,List.getElem_cons_succ,List.getElem_cons_zero]
          rw [if_pos (by rfl)]
          refine wst86 (w.heap.size + 1) 0 (p % q) ⟨_,_,rfl,rfl,rfl⟩ (World.there_setCells G2.out.t1 _ _ _) ?_
          refine hK _ _ ?_;clear hK K
          try simp only [Act.put]
          refine wpAny_done (by kernel_rfl) ?_ _
          go_roundw
          case rel=>exact ⟨_,_,_,_,_,_,_,_,_,_,_,_,_,⟨q,p % q,Hq.out,Nat.lt_trans Hlt.out Hq.out,Hgr.out,FIN.out,FS.out⟩,rfl⟩
          case measure=>rw [Hval.out];exact Nat.lt_of_le_of_lt (Nat.le_of_eq FV.out) Hlt.out
        refine AllReady.cons rfl (fun K hK=>?_) AllReady.nil
        simp only [List.getElem_toArray,List.getElem_cons_succ,List.getElem_cons_zero]
        rw [if_pos (by rfl)]
        refine wst86 w.heap.size 0 q ⟨_,_,rfl,rfl,rfl⟩ G2.out.t0 ?_
        refine hK _ _ ?_;clear hK K
        try simp only [Act.put]
        refine wpAny_ready (rs:=[1]) (by kernel_rfl) (by simp) ?_
        refine AllReady.cons rfl (fun K hK=>?_) AllReady.nil
        simp only [List.getElem_toArray,List.getElem_cons_succ,List.getElem_cons_zero]
        rw [if_pos (by rfl)]
        refine wld86 (w3.heap.size + 1) 0 (p % q) ⟨_,rfl,rfl⟩ (range_setk R6.out hne) ?_
        refine hK _ _ ?_;clear hK K
        try simp only [Act.put,List.setIfInBounds_toArray,List.set_cons_zero,List.set_cons_succ]
        refine wpAny_ready (rs:=[3]) (by kernel_rfl) (by simp) ?_
        refine AllReady.cons rfl (fun K hK=>?_) AllReady.nil
        simp only [List.getElem_toArray,List.getElem_cons_succ,List.getElem_cons_zero]
        rw [if_pos (by rfl)]
        refine wst86 (w.heap.size + 1) 0 (p % q) ⟨_,_,rfl,rfl,rfl⟩ (World.there_setCells G2.out.t1 _ _ _) ?_
        refine hK _ _ ?_;clear hK K
        try simp only [Act.put]
        refine wpAny_done (by kernel_rfl) ?_ _
        go_roundw
        case rel=>exact ⟨_,_,_,_,_,_,_,_,_,_,_,_,_,⟨q,p % q,Hq.out,Nat.lt_trans Hlt.out Hq.out,Hgr.out,FIN.out,FS.out⟩,rfl⟩
        case measure=>rw [Hval.out];exact Nat.lt_of_le_of_lt (Nat.le_of_eq FV.out) Hlt.out
      refine AllReady.cons rfl (fun K hK=>?_) AllReady.nil
      simp only [List.getElem_toArray,List.getElem_cons_succ,List.getElem_cons_zero]
      rw [if_pos (by rfl)]
      refine wld86 (w3.heap.size + 1) 0 (p % q) ⟨_,rfl,rfl⟩ R6.out ?_
      refine hK _ _ ?_;clear hK K
      try simp only [Act.put,List.setIfInBounds_toArray,List.set_cons_zero,List.set_cons_succ]
      refine wpAny_ready (rs:=[0]) (by kernel_rfl) (by simp) ?_
      refine AllReady.cons rfl (fun K hK=>?_) AllReady.nil
      simp only [List.getElem_toArray,List.getElem_cons_zero]
      rw [if_pos (by rfl)]
      refine wld86 (w.heap.size + 1) 0 q ⟨_,rfl,rfl⟩ G2.out.r1 ?_
      refine hK _ _ ?_;clear hK K
      try simp only [Act.put,List.setIfInBounds_toArray,List.set_cons_zero,List.set_cons_succ]
      refine wpAny_ready (rs:=[2]) (by kernel_rfl) (by simp) ?_
      refine AllReady.cons rfl (fun K hK=>?_) AllReady.nil
      simp only [List.getElem_toArray,List.getElem_cons_succ,List.getElem_cons_zero]
      rw [if_pos (by rfl)]
      refine wst86 w.heap.size 0 q ⟨_,_,rfl,rfl,rfl⟩ G2.out.t0 ?_
      refine hK _ _ ?_;clear hK K
      try simp only [Act.put]
      refine wpAny_ready (rs:=[3]) (by kernel_rfl) (by simp) ?_
      refine AllReady.cons rfl (fun K hK=>?_) AllReady.nil
      simp only [List.getElem_toArray,List.getElem_cons_succ,List.getElem_cons_zero]
      rw [if_pos (by rfl)]
      refine wst86 (w.heap.size + 1) 0 (p % q) ⟨_,_,rfl,rfl,rfl⟩ (World.there_setCells G2.out.t1 _ _ _) ?_
      refine hK _ _ ?_;clear hK K
      try simp only [Act.put]
      refine wpAny_done (by kernel_rfl) ?_ _
      go_roundw
      case rel=>exact ⟨_,_,_,_,_,_,_,_,_,_,_,_,_,⟨q,p % q,Hq.out,Nat.lt_trans Hlt.out Hq.out,Hgr.out,FIN.out,FS.out⟩,rfl⟩
      case measure=>rw [Hval.out];exact Nat.lt_of_le_of_lt (Nat.le_of_eq FV.out) Hlt.out
    · have t1 : decide ((lsz q : Int) > 2) = false:=by simp;omega
      have hq2 : q < bb ^ 2:=(lsz_le_iff 2 q).1 (by omega)
      obtain ⟨s,hs⟩ : ∃ s,lsz q = s:=⟨_,rfl⟩
      rw [hs] at t1 cs
      have Cs:=Lib.hid cs
      have HG:=Lib.hid G
      have cz:=fun w=>isZero_any q hq30 w
      by_cases hq0 : q = 0
      · subst hq0
        rw [show decide (0 = 0) = true from rfl] at cz
        rw [Nat.gcd_zero_right] at hg
        subst hg
        have Cz:=Lib.hid cz
        clear cs cz hs hbig G hp hq hq30 hq2
        go_wp2_with (first
          | ((with_reducible refine ld86 (w.heap.size + 1) 0 0 ?_ ?_ ?_);(· exact ⟨rfl,_,rfl,rfl⟩);· first | exact HG.out.r1 | exact range_keep HG.out.r1 HB1.out)
          | ((with_reducible refine ld86 w.heap.size 0 (Nat.gcd m o) ?_ ?_ ?_);(· exact ⟨rfl,_,rfl,rfl⟩);· exact range_keep HG.out.r0 HB2.out)
          | (go_at_call 159;(with_reducible refine (Cs.out _).mono ?_);rintro e w1 ⟨rfl,hb1⟩;have HB1:=Lib.hid hb1;clear hb1)
          | (go_at_call 86;(with_reducible refine (Cz.out _).mono ?_);rintro e w2 ⟨rfl,hb2⟩;have HB2:=Lib.hid (HB1.out.trans (hb2.mono HB1.out.size));clear hb2)
          | ((with_reducible refine st86 (w.heap.size + 2) 0 (Nat.gcd m o) ?_ ?_ ?_);(· exact ⟨rfl,_,_,rfl,rfl,rfl⟩);· exact there_keep HG.out.t2 HB2.out))
        refine ret86 Tryz.results96 (w.heap.size + 2) 0 rfl (Nat.gcd m o) (range_set (there_keep HG.out.t2 HB2.out) (by rw [mgL_len])) rfl ⟨rfl,?_⟩
        exact below_set (HG.out.below.trans (HB2.out.mono HG.out.below.size)) (by omega) _ _
      · rw [show decide (q = 0) = false by simpa using hq0] at cz
        have Cz:=Lib.hid cz
        have h0 : 0 < q:=Nat.pos_of_ne_zero hq0
        have hr2 : p % q < bb ^ 2:=Nat.lt_trans (Nat.mod_lt _ h0) hq2
        have Cd:=Lib.hid (fun w=>divide_all p q hp hq30 h0 w)
        have Cw1:=Lib.hid (fun w=>word_any q hq2 w)
        have Cw2:=Lib.hid (fun w=>word_any (p % q) hr2 w)
        have cg:=fun w=>gcdWords_any q (p % q) hq2 hr2 w
        rw [show Nat.gcd q (p % q) = Nat.gcd m o by rw [<- hg,Nat.gcd_comm p,Nat.gcd_rec q p,Nat.gcd_comm]] at cg
        have Cg:=Lib.hid cg
        have Cf:=Lib.hid (fun w=>fromWord_any (Nat.gcd m o) (by rw [<- hg];exact Nat.lt_of_le_of_lt (Nat.gcd_le_right _ h0) hq2) w)
        clear cs cz hs hbig G hp hq hq30 hq2 h0 hr2 cg hg hq0
        go_wp2_with (first
          | ((with_reducible refine ld86 (w.heap.size + 1) 0 q ?_ ?_ ?_);(· exact ⟨rfl,_,rfl,rfl⟩);· first | exact HG.out.r1 | exact range_keep HG.out.r1 HB2.out | exact range_keep HG.out.r1 HB1.out)
          | ((with_reducible refine ld86 w.heap.size 0 p ?_ ?_ ?_);(· exact ⟨rfl,_,rfl,rfl⟩);· exact range_keep HG.out.r0 HB2.out)
          | (go_at_call 159;(with_reducible refine (Cs.out _).mono ?_);rintro e w1 ⟨rfl,hb1⟩;have HB1:=Lib.hid hb1;clear hb1)
          | (go_at_call 86;(with_reducible refine (Cz.out _).mono ?_);rintro e w2 ⟨rfl,hb2⟩;have HB2:=Lib.hid (HB1.out.trans (hb2.mono HB1.out.size));clear hb2)
          | (go_at_call 154;(with_reducible refine (Cd.out _).mono ?_);rintro e w3 ⟨rfl,hb3⟩;have HB3:=Lib.hid (HB2.out.trans (hb3.mono HB2.out.size));clear hb3)
          | ((with_reducible refine al_zb 86 _ w3.heap.size ?_ ?_ z86 ?_);(· exact ⟨rfl,rfl⟩);· rfl)
          | ((with_reducible refine al_zb 86 _ (w3.heap.size + 1) ?_ ?_ z86 ?_);(· exact ⟨rfl,rfl⟩);· (simp;done))
          | ((with_reducible refine st86 w3.heap.size 0 (p / q) ?_ ?_ ?_);(· exact ⟨rfl,_,_,rfl,rfl,rfl⟩);· exact gd_there0 w3)
          | ((with_reducible refine st86 (w3.heap.size + 1) 0 (p % q) ?_ ?_ ?_);(· exact ⟨rfl,_,_,rfl,rfl,rfl⟩);· exact World.there_setCells (gd_there1 w3) _ _ _))
        try simp only [Act.put,List.setIfInBounds_toArray,List.set_cons_zero,List.set_cons_succ]
        have hz3:=HB3.out.size
        have G2:=Lib.hid ((HG.out.keep (HB3.out.trans ((nw2_old w3 (p / q) (p % q)).mono hz3))).drew)
        have R6 : (nw2 w3 (p / q) (p % q)).drew.rangeAt (w3.heap.size + 1) 0 (mgL (p % q)):=nw2_at1 w3 (p / q) (p % q)
        have R6:=Lib.hid R6
        have hne : w3.heap.size + 1 ≠ w.heap.size + 2:=by omega
        clear hz3
        refine wp_region_held_drew (S:=(fun w'=>Below w.heap.size w w'/\w'.rangeAt (w.heap.size + 1) 0 (mgL q)/\w'.rangeAt (w3.heap.size + 1) 0 (mgL (p % q))/\w'.there (w.heap.size + 2) 0 30)) (by kernel_rfl) ?_ (fun hH=>?_)
        · exact ⟨G2.out.below,G2.out.r1,R6.out,G2.out.t2⟩
        try dsimp only at hH
        refine wpAnyH_take (i:=0) (v:=(.agg (mgL q).toArray)) rfl (by kernel_rfl) (by kernel_rfl) (by kernel_rfl) (fun _ _ _ h=>h) (yld86 (w.heap.size + 1) 0 q rfl ⟨_,rfl,rfl⟩ (fun wz hz=>hz.2.1)) hH ?_
        try simp only [Act.put,List.getElem_toArray,List.getElem_cons_zero,List.setIfInBounds_toArray,List.set_cons_zero,List.set_cons_succ]
        refine wpAnyH_take (i:=2) (v:=(.agg (mgL (p % q)).toArray)) rfl (by kernel_rfl) (by kernel_rfl) (by kernel_rfl) (fun _ _ _ h=>h) (yld86 (w3.heap.size + 1) 0 (p % q) rfl ⟨_,rfl,rfl⟩ (fun wz hz=>hz.2.2.1)) hH ?_
        try simp only [Act.put,List.getElem_toArray,List.getElem_cons_succ,List.getElem_cons_zero,List.setIfInBounds_toArray,List.set_cons_zero,List.set_cons_succ]
        refine wpAnyH_ready (rs:=[1]) (by kernel_rfl) (by simp) ?_
        refine AllReadyH.cons rfl (fun K hK=>?_) AllReadyH.nil
        simp only [List.getElem_toArray,List.getElem_cons_succ,List.getElem_cons_zero]
        rw [if_pos (by rfl)]
        go_simp
        refine (Cw1.out _).mono ?_;rintro e w1 ⟨rfl,hb1⟩
        try simp only []
        refine hK.out _ _ ?_ (fun hH1=>?_)
        · exact ⟨(hH.1).trans (hb1.mono (hH.1).size),range_keep hH.2.1 hb1,range_keep hH.2.2.1 hb1,there_keep hH.2.2.2 hb1⟩
        clear hK K
        try simp only [Act.put,List.getElem_toArray,List.getElem_cons_succ,List.getElem_cons_zero,List.setIfInBounds_toArray,List.set_cons_zero,List.set_cons_succ]
        refine wpAnyH_ready (rs:=[3]) (by kernel_rfl) (by simp) ?_
        refine AllReadyH.cons rfl (fun K hK=>?_) AllReadyH.nil
        simp only [List.getElem_toArray,List.getElem_cons_succ,List.getElem_cons_zero]
        rw [if_pos (by rfl)]
        go_simp
        refine (Cw2.out _).mono ?_;rintro e w2 ⟨rfl,hb2⟩
        try simp only []
        refine hK.out _ _ ?_ (fun hH2=>?_)
        · exact ⟨(hH1.1).trans (hb2.mono (hH1.1).size),range_keep hH1.2.1 hb2,range_keep hH1.2.2.1 hb2,there_keep hH1.2.2.2 hb2⟩
        clear hK K
        try simp only [Act.put,List.getElem_toArray,List.getElem_cons_succ,List.getElem_cons_zero,List.setIfInBounds_toArray,List.set_cons_zero,List.set_cons_succ]
        refine wpAnyH_ready (rs:=[4]) (by kernel_rfl) (by simp) ?_
        refine AllReadyH.cons rfl (fun K hK=>?_) AllReadyH.nil
        simp only [List.getElem_toArray,List.getElem_cons_succ,List.getElem_cons_zero]
        rw [if_pos (by rfl)]
        go_simp
        refine (Cg.out _).mono ?_;rintro e w3 ⟨rfl,hb3⟩
        try simp only []
        refine hK.out _ _ ?_ (fun hH3=>?_)
        · exact ⟨(hH2.1).trans (hb3.mono (hH2.1).size),range_keep hH2.2.1 hb3,range_keep hH2.2.2.1 hb3,there_keep hH2.2.2.2 hb3⟩
        clear hK K
        try simp only [Act.put,List.getElem_toArray,List.getElem_cons_succ,List.getElem_cons_zero,List.setIfInBounds_toArray,List.set_cons_zero,List.set_cons_succ]
        refine wpAnyH_ready (rs:=[5]) (by kernel_rfl) (by simp) ?_
        refine AllReadyH.cons rfl (fun K hK=>?_) AllReadyH.nil
        simp only [List.getElem_toArray,List.getElem_cons_succ,List.getElem_cons_zero]
        rw [if_pos (by rfl)]
        go_simp
        refine (Cf.out _).mono ?_;rintro e w4 ⟨rfl,hb4⟩
        try simp only []
        refine hK.out _ _ ?_ (fun hH4=>?_)
        · exact ⟨(hH3.1).trans (hb4.mono (hH3.1).size),range_keep hH3.2.1 hb4,range_keep hH3.2.2.1 hb4,there_keep hH3.2.2.2 hb4⟩
        clear hK K
        try simp only [Act.put,List.getElem_toArray,List.getElem_cons_succ,List.getElem_cons_zero,List.setIfInBounds_toArray,List.set_cons_zero,List.set_cons_succ]
        refine wpAnyH_ready (rs:=[6]) (by kernel_rfl) (by simp) ?_
        refine AllReadyH.cons rfl (fun K hK=>?_) AllReadyH.nil
        simp only [List.getElem_toArray,List.getElem_cons_succ,List.getElem_cons_zero]
        rw [if_pos (by rfl)]
        with_reducible refine wst86 (w.heap.size + 2) 0 (Nat.gcd m o) ?_ hH4.2.2.2 ?_
        · exact ⟨_,_,rfl,rfl,rfl⟩
        refine hK.out _ _ ?_ (fun hH5=>?_)
        · exact ⟨below_set hH4.1 (by omega) _ _,range_setk hH4.2.1 (by first | trivial | omega),range_setk hH4.2.2.1 (by first | trivial | omega),there_setk hH4.2.2.2 (by first | trivial | omega)⟩
        clear hK K
        try simp only [Act.put]
        refine wpAnyH_done (by kernel_rfl) ?_ _
        go_wp2
        exact ret86 Tryz.results96 (w.heap.size + 2) 0 rfl (Nat.gcd m o) (range_set hH4.2.2.2 (by rw [mgL_len])) rfl ⟨rfl,hH5.1⟩
end
section
open Go.RowKit
theorem gcd_lt {a b : Nat} (ha : a < bb ^ 29) (hb : b < bb ^ 29) : Nat.gcd a b < bb ^ 30:=by
  have h : bb ^ 29 <= bb ^ 30:=pow_mono (by omega)
  rcases Nat.eq_zero_or_pos b with rfl | hp
  · rw [Nat.gcd_zero_right];omega
  · exact Nat.lt_of_le_of_lt (Nat.gcd_le_right _ hp) (by omega)
theorem up29 {a : Nat} (ha : a < bb ^ 14) : a < bb ^ 29:=Nat.lt_of_lt_of_le ha (pow_mono (by omega))
set_option maxHeartbeats 1000000 in
theorem gcdF_any (n1 : Nat) (s1 : Bool) (n2 : Nat) (s2 : Bool) (h1 : n1 < bb ^ 29) (h2 : n2 < bb ^ 29) (w : World) :
    Calls Tryz.prog 95 #[.agg (sgL n1 s1).toArray,.agg (sgL n2 s2).toArray] w fun e w'=>e = .returned (.agg (sgL (Nat.gcd n1 n2) false).toArray)/\Below w.heap.size w w':=by
  have hg : Nat.gcd n1 n2 < bb ^ 30:=gcd_lt h1 h2
  have Cg:=Lib.hid (fun w=>gcd_any n1 n2 h1 h2 w)
  have cn:=fun w=>number_any (Nat.gcd n1 n2) false hg w
  change ∀ w,Calls Tryz.prog 93 #[.agg (mgL (Nat.gcd n1 n2)).toArray,.bool false] w (fun e w'=>e = .returned (.agg (sgL (Nat.gcd n1 n2) false).toArray)/\Below w.heap.size w w') at cn
  have Cn:=Lib.hid cn
  have Hb:=Lib.hid (show Below w.heap.size w (((w.alloc (.cells (sgL n1 s1).toArray 88)).alloc (.cells (sgL n2 s2).toArray 88)).alloc (.cells (sgL 0 false).toArray 88)) from (((Below.refl w.heap.size w).alloc (Nat.le_refl _) _).alloc (by simp) _).alloc (by simp;omega) _)
  have Hr1:=Lib.hid (show (((w.alloc (.cells (sgL n1 s1).toArray 88)).alloc (.cells (sgL n2 s2).toArray 88)).alloc (.cells (sgL 0 false).toArray 88)).rangeAt w.heap.size 0 (mgL n1) from (range_sg (World.rangeAt_alloc (World.rangeAt_alloc (range_new w (sgL n1 s1) 88) _) _)).1)
  have Hr2:=Lib.hid (show (((w.alloc (.cells (sgL n1 s1).toArray 88)).alloc (.cells (sgL n2 s2).toArray 88)).alloc (.cells (sgL 0 false).toArray 88)).rangeAt (w.heap.size + 1) 0 (mgL n2) from (range_sg (World.rangeAt_alloc (range_at (by simp) (sgL n2 s2) 88) _)).1)
  have Ht:=Lib.hid (show (((w.alloc (.cells (sgL n1 s1).toArray 88)).alloc (.cells (sgL n2 s2).toArray 88)).alloc (.cells (sgL 0 false).toArray 88)).there (w.heap.size + 2) 0 31 from there_at (by simp) _ 88 (by rw [sgL_len]))
  clear cn hg h1 h2
  go_enter Tryz.func95,Tryz.ntmps95
  go_wp2_with (first
    | ((with_reducible refine al_zb 88 _ (w.heap.size + 2) ?_ ?_ z88 ?_);(· exact ⟨rfl,rfl⟩);· (simp;done))
    | ((with_reducible refine ld86 w.heap.size 0 n1 ?_ ?_ ?_);(· exact ⟨rfl,_,rfl,rfl⟩);· exact Hr1.out)
    | ((with_reducible refine ld86 (w.heap.size + 1) 0 n2 ?_ ?_ ?_);(· exact ⟨rfl,_,rfl,rfl⟩);· exact Hr2.out)
    | (go_at_call 96;(with_reducible refine (Cg.out _).mono ?_);rintro e w1 ⟨rfl,hb1⟩;have HB1:=Lib.hid hb1;clear hb1)
    | (go_at_call 93;(with_reducible refine (Cn.out _).mono ?_);rintro e w2 ⟨rfl,hb2⟩;have HB2:=Lib.hid (HB1.out.trans (hb2.mono HB1.out.size));clear hb2)
    | ((with_reducible refine st88 (w.heap.size + 2) 0 (Nat.gcd n1 n2) false ?_ ?_ ?_);(· exact ⟨rfl,_,_,rfl,rfl,rfl⟩);· exact there_keep Ht.out HB2.out))
  refine ret88 Tryz.results95 (w.heap.size + 2) 0 rfl (Nat.gcd n1 n2) false (range_set (there_keep Ht.out HB2.out) (by rw [sgL_len])) rfl ⟨rfl,?_⟩
  exact below_set (Hb.out.trans (HB2.out.mono Hb.out.size)) (by omega) _ _
theorem gcd_enter (args : Array Value) (w : World) : (callFunc 95 args).run Tryz.prog w = .ok (.enter 95 args) w:=enters_of Tryz.func95 (by kernel_rfl) rfl _ _
theorem gcd_ok (s1 s2 : ByteArray) (h1 : ckL s1.data.toList = 0) (h2 : ckL s2.data.toList = 0) (w : World) (hg : Gl w) :
    Calls Tryz.prog 33 #[.string s1,.string s2] w fun e w'=>e = .returned (resT (Nat.gcd (intM s1.data.toList) (intM s2.data.toList)) (false))/\Below w.heap.size w w':=by
  have c:=integers_ok 95 gcd_enter s1 s2 h1 h2 (Nat.gcd (intM s1.data.toList) (intM s2.data.toList)) (false) (gcd_lt (up29 (intM_small _ h1)) (up29 (intM_small _ h2))) (fun w _=>gcdF_any _ _ _ _ (up29 (intM_small _ h1)) (up29 (intM_small _ h2)) w) w hg
  unfold resT
  obtain ⟨T,hT⟩ : ∃ T : ByteArray,(if digN (Nat.gcd (intM s1.data.toList) (intM s2.data.toList)) <= 120 then (⟨(sgText (Nat.gcd (intM s1.data.toList) (intM s2.data.toList)) (false)).toArray⟩ : ByteArray) else ⟨#[]⟩) = T:=⟨_,rfl⟩
  obtain ⟨E,hE⟩ : ∃ E,fitsV (Nat.gcd (intM s1.data.toList) (intM s2.data.toList)) = E:=⟨_,rfl⟩
  rw [hT,hE] at c ⊢
  have C:=Lib.hid c;clear c hT hE h1 h2 hg
  go_enter Tryz.func33,Tryz.ntmps33
  go_wp2_with (go_at_call 77;(with_reducible refine (C.out).mono ?_);rintro e w1 ⟨rfl,hb1⟩)
  go_ret2
  exact ⟨rfl,hb1⟩
end
section
open Go.RowKit
theorem mapM115 (w : World) : (Array.mapM (fun (f : Field)=>do let z <- Go.sizeOf f.type;pure (f.offset,z)) #[({ name := "upper", type:=88,offset:=0,embedded:=false,tag := "", pkgPath := "entail/num", byteOffset:=0 } : Field),{ name := "lower", type:=88,offset:=31,embedded:=false,tag := "", pkgPath := "entail/num", byteOffset:=124 }] : Sem (Array (Nat × Nat))).run Tryz.prog w = .ok #[(0,31),(31,31)] w:=by
  simp [Tryz.sizeOf88,Result.andThen]
theorem build115 (p : Nat) (s : Bool) (q : Nat) (t : Bool) (w : World) : (Instr.build 115 #[(0,.agg (sgL p s).toArray),(1,.agg (sgL q t).toArray)]).run Tryz.prog w = .ok (.agg (frL p s q t).toArray) w:=by
  unfold Instr.build
  rw [Sem.run_bind,z115,Result.andThen_ok]
  simp only [Sem.run_bind,run_underlying Tryz.underlying115,Result.andThen_ok]
  rw [mapM115,Result.andThen_ok]
  have h1:=splice [] (sgL 0 false) (sgL 0 false) (sgL p s) (by rw [sgL_len,sgL_len])
  have h2:=splice (sgL p s) (sgL 0 false) [] (sgL q t) (by rw [sgL_len,sgL_len])
  simp only [List.nil_append,List.append_nil,List.length_nil,sgL_len] at h1 h2
  have e1 : (Value.agg (frL 0 false 0 false).toArray).cells = (sgL 0 false ++ sgL 0 false).toArray:=by unfold frL;rfl
  have e2 : (Value.agg (sgL p s).toArray).cells = (sgL p s).toArray:=rfl
  have e3 : (Value.agg (sgL q t).toArray).cells = (sgL q t).toArray:=rfl
  have f : Instr.fill (fun x=>[(0,31),(31,31)][x]?) (Value.agg (frL 0 false 0 false).toArray).cells [(0,.agg (sgL p s).toArray),(1,.agg (sgL q t).toArray)] = some (frL p s q t).toArray:=by
    rw [e1]
    unfold Instr.fill
    simp only [List.getElem?_cons_zero,e2,sgL_size]
    rw [if_neg (by simp [sgL_len])]
    rw [h1]
    unfold Instr.fill
    simp only [List.getElem?_cons_succ,List.getElem?_cons_zero,e3,sgL_size]
    rw [if_neg (by simp [sgL_len])]
    rw [h2]
    unfold Instr.fill frL
    rfl
  simp [f]
section
variable {ops : Array Oper} {rest : List Oper} {op : Oper} {a : Act} {w : World} {Q : Exit->Act->World->Prop}
theorem b115 (p : Nat) (s : Bool) (q : Nat) (t : Bool) (ho : op.guard = none/\∃ x y,op.op = .build 115 #[(0,x),(1,y)]/\a.eval x = .agg (sgL p s).toArray/\a.eval y = .agg (sgL q t).toArray)
    (h : wpList Tryz.prog ops Q rest (a.put op.dst (.agg (frL p s q t).toArray)) w) : wpList Tryz.prog ops Q (op :: rest) a w :=
  let ⟨hg,x,y,h1,h2,h3⟩:=ho
  wpList_plain hg fun K hK=>by
    unfold Oper.wp execOp
    simp only [h1,List.map_toArray,List.map_cons,List.map_nil,h2,h3]
    rw [run_next (build115 p s q t w)]
    exact hK _ _ h
end
end
section
open Go.RowKit
def upT (l : List UInt8) : List UInt8:=(Lib.cut l [47]).1
def loT (l : List UInt8) : List UInt8:=(Lib.cut l [47]).2.1
theorem cut_any (s : ByteArray) (hs : s.size < 4294967281) (w : World) (hg : Gl w) :
    Calls Tryz.prog 113 #[.string s,.string ⟨#[47]⟩] w fun e w'=>e = .returned (.tuple #[.string ⟨(upT s.data.toList).toArray⟩,.string ⟨(loT s.data.toList).toArray⟩,.bool (Lib.cut s.data.toList [47]).2.2])/\Below w.heap.size w w':=by
  obtain ⟨m,hm⟩:=hg.ml
  refine (Tryz.strings_Cut s ⟨#[47]⟩ m w hs hm).mono ?_
  rintro e w' ⟨rfl,n,rfl⟩
  exact ⟨rfl,below_drewN (Below.refl _ _)⟩
set_option maxHeartbeats 1000000 in
set_option maxRecDepth 20000 in
theorem parseFraction_any (s : ByteArray) (hs : s.size < 4294967281) (h1 : ckL (upT s.data.toList) = 0) (h2 : ckL (loT s.data.toList) = 0) (w : World) (hg : Gl w) :
    Calls Tryz.prog 107 #[.string s] w fun e w'=>e = .returned (.agg (frL (intM (upT s.data.toList)) (intS (upT s.data.toList)) (intM (loT s.data.toList)) (intS (loT s.data.toList))).toArray)/\Below w.heap.size w w':=by
  have hb0 : Below w.heap.size w (w.alloc (.cells (frL 0 false 0 false).toArray 115)):=(Below.refl _ _).alloc (Nat.le_refl _) _
  have HB0:=Lib.hid hb0
  have HG0:=Lib.hid (hg.keep hb0)
  have Ht:=Lib.hid (show (w.alloc (.cells (frL 0 false 0 false).toArray 115)).there w.heap.size 0 62 from there_at rfl _ 115 (by rw [frL_len]))
  have cc:=fun w g=>cut_any s hs w g
  have p1:=fun w g=>parse_ck ⟨(upT s.data.toList).toArray⟩ h1 w g
  have p2:=fun w g=>parse_ck ⟨(loT s.data.toList).toArray⟩ h2 w g
  change ∀ w,Gl w->Calls Tryz.prog 72 _ w (fun e w'=>e = .returned (.agg (sgL (intM (upT s.data.toList)) (intS (upT s.data.toList))).toArray)/\Below w.heap.size w w') at p1
  change ∀ w,Gl w->Calls Tryz.prog 72 _ w (fun e w'=>e = .returned (.agg (sgL (intM (loT s.data.toList)) (intS (loT s.data.toList))).toArray)/\Below w.heap.size w w') at p2
  obtain ⟨fb,hfb⟩ : ∃ fb,(Lib.cut s.data.toList [47]).2.2 = fb:=⟨_,rfl⟩
  rw [hfb] at cc
  obtain ⟨U,hU⟩ : ∃ U : ByteArray,⟨(upT s.data.toList).toArray⟩ = U:=⟨_,rfl⟩
  obtain ⟨V,hV⟩ : ∃ V : ByteArray,⟨(loT s.data.toList).toArray⟩ = V:=⟨_,rfl⟩
  rw [hU] at cc p1
  rw [hV] at cc p2
  obtain ⟨a,ha⟩ : ∃ a,intM (upT s.data.toList) = a:=⟨_,rfl⟩
  obtain ⟨b,hb⟩ : ∃ b,intS (upT s.data.toList) = b:=⟨_,rfl⟩
  obtain ⟨c,hc⟩ : ∃ c,intM (loT s.data.toList) = c:=⟨_,rfl⟩
  obtain ⟨d,hd⟩ : ∃ d,intS (loT s.data.toList) = d:=⟨_,rfl⟩
  rw [ha,hb] at p1 ⊢
  rw [hc,hd] at p2 ⊢
  have Cc:=Lib.hid cc;have P1:=Lib.hid p1;have P2:=Lib.hid p2
  clear cc p1 p2 h1 h2 hs hg hb0 hU hV ha hb hc hd hfb
  go_enter Tryz.func107,Tryz.ntmps107
  go_wp2_with (first
    | ((with_reducible refine al_zb 115 _ w.heap.size ?_ ?_ z115 ?_);(· exact ⟨rfl,rfl⟩);· rfl)
    | (go_at_call 113;(with_reducible refine (Cc.out _ HG0.out).mono ?_);rintro e w1 ⟨rfl,hb1⟩;have HB1:=Lib.hid hb1;have HG1:=Lib.hid (HG0.out.keep hb1);clear hb1)
    | (go_at_call 72;(with_reducible refine (P1.out _ HG1.out).mono ?_);rintro e w2 ⟨rfl,hb2⟩;have HB2:=Lib.hid (HB1.out.trans (hb2.mono HB1.out.size));have HG2:=Lib.hid (HG1.out.keep hb2);clear hb2 HG1)
    | (go_at_call 72;(with_reducible refine (P2.out _ HG2.out).mono ?_);rintro e w3 ⟨rfl,hb3⟩;have HB3:=Lib.hid (HB2.out.trans (hb3.mono HB2.out.size));clear hb3 HG2)
    | ((with_reducible refine b115 a b c d ?_ ?_);(· exact ⟨rfl,_,_,rfl,rfl,rfl⟩))
    | ((with_reducible refine st115 w.heap.size 0 a b c d ?_ ?_ ?_);(· exact ⟨rfl,_,_,rfl,rfl,rfl⟩);· exact there_keep Ht.out HB3.out))
  refine ret115 Tryz.results107 w.heap.size 0 rfl a b c d (range_set (there_keep Ht.out HB3.out) (by rw [frL_len])) rfl ⟨rfl,?_⟩
  exact below_set (HB0.out.trans (HB3.out.mono HB0.out.size)) (Nat.le_refl _) _ _
end
end Go.Proofs.YtpbegoflpfdajaaGreatDoor
/- WHAT IS PROVED: contracts of functions of the numbers package and laws for them, used by the last text of this claim. CONDITIONS: stated at each theorem. -/
import Derived.Test.YtpbegoflpfdajaaGreatDoorN41
namespace Go.Proofs.YtpbegoflpfdajaaGreatDoor
section
open Go.RowKit
open Qd (lims)
theorem refSmall_any (n : Int) (h1 : -9223372036854775808 <= n) (h2 : n <= 9223372036854775807) (w : World) : Calls Tryz.prog 68 #[.int .i64 n] w fun e w'=>∃ v,e = .returned v/\BigAt w' v n/\Below w.heap.size w w':=by
  by_cases h : 0 <= n
  · have:=refSmall_pos n.natAbs (by omega) w
    rwa [show ((n.natAbs : Nat) : Int) = n by omega] at this
  · have:=refSmall_neg n.natAbs (by omega) (by omega) w
    rwa [show -((n.natAbs : Nat) : Int) = n by omega] at this
end
section
open Go.RowKit
open Qd (lims)
/-! a step of a long division -/
theorem rq_head (m n i : Nat) : m / Qd.bb ^ i = m / Qd.bb ^ (i + 1) * Qd.bb + Qd.lim m i:=by
  unfold Qd.lim
  rw [Nat.pow_succ,<- Nat.div_div_eq_div_mul,Nat.mul_comm,Nat.div_add_mod]
theorem rq_eq (m n i : Nat) : m / Qd.bb ^ i = n * (m / Qd.bb ^ (i + 1) / n * Qd.bb) + (m / Qd.bb ^ (i + 1) % n * Qd.bb + Qd.lim m i):=by
  conv=>lhs;rw [rq_head m n i,<- Nat.div_add_mod (m / Qd.bb ^ (i + 1)) n]
  rw [Nat.add_mul,Nat.mul_assoc,Nat.add_assoc]
theorem rq_lt (m n i : Nat) (hn : 0 < n) : m / Qd.bb ^ (i + 1) % n * Qd.bb + Qd.lim m i < n * Qd.bb:=by
  have h1:=Nat.mod_lt (m / Qd.bb ^ (i + 1)) hn
  have h2:=Qd.lim_lt m i
  have : (m / Qd.bb ^ (i + 1) % n + 1) * Qd.bb <= n * Qd.bb:=Nat.mul_le_mul_right _ h1
  rw [Nat.add_mul] at this
  omega
theorem rq_mod (m n i : Nat) : (m / Qd.bb ^ (i + 1) % n * Qd.bb + Qd.lim m i) % n = m / Qd.bb ^ i % n:=by
  rw [rq_eq m n i,Nat.mul_add_mod]
theorem rq_div (m n i : Nat) (hn : 0 < n) : (m / Qd.bb ^ (i + 1) % n * Qd.bb + Qd.lim m i) / n = Qd.lim (m / n) i:=by
  have h3 : (m / Qd.bb ^ (i + 1) % n * Qd.bb + Qd.lim m i) / n < Qd.bb:=(Nat.div_lt_iff_lt_mul hn).2 (by rw [Nat.mul_comm Qd.bb n];exact rq_lt m n i hn)
  conv=>rhs;unfold Qd.lim
  rw [Nat.div_div_eq_div_mul,Nat.mul_comm n,<- Nat.div_div_eq_div_mul,rq_eq m n i,Nat.mul_add_div hn,Nat.mul_comm (m / Qd.bb ^ (i + 1) / n) Qd.bb,Nat.mul_add_mod,Nat.mod_eq_of_lt h3]
theorem lsz_step {R n : Nat} (h : R < n * Qd.bb) : Qd.lsz R <= Qd.lsz n + 1:=(Qd.lsz_le_iff _ _).2 (by
  rw [Nat.pow_succ]
  exact Nat.lt_of_lt_of_le h (Nat.mul_le_mul_right _ (Nat.le_of_lt (Qd.lsz_lt n))))
theorem cmpN_lt (a b : Nat) : decide (cmpN a b < 0) = decide (a < b):=by
  unfold cmpN
  by_cases h : a < b
  · rw [if_pos h,decide_eq_true h];rfl
  · rw [if_neg h,decide_eq_false h];split <;> rfl
theorem cmpN_le (a b : Nat) : decide (cmpN a b <= 0) = decide (a <= b):=by
  unfold cmpN
  by_cases h : a < b
  · rw [if_pos h,decide_eq_true (Nat.le_of_lt h)];rfl
  · by_cases h2 : b < a
    · rw [if_neg h,if_pos h2,show decide (a <= b) = false from decide_eq_false (by omega)];rfl
    · rw [if_neg h,if_neg h2,show decide (a <= b) = true from decide_eq_true (by omega)];rfl
theorem Mg.set_ne {w : World} {g k c : Nat} {l : List Nat} (h : Mg w (.slice (some ⟨g,0,none⟩) k c) l) {b : Nat} (hne : g ≠ b) (o : Nat) (u : Value) : Mg (w.setCell ⟨b,o,none⟩ u) (.slice (some ⟨g,0,none⟩) k c) l:=by
  obtain ⟨p,c',he,h0,h1⟩:=h
  injection he with e1 e2 e3
  refine ⟨p,c',by rw [<- e1,<- e2,<- e3],h0,fun hl=>?_⟩
  obtain ⟨g',hp,hg,hx⟩:=h1 hl
  rw [<- e1] at hp
  injection hp with hp
  injection hp with hp
  subst hp
  exact ⟨g,by rw [<- e1],by simpa using hg,fun i hi=>cell_set (hx i hi) hne⟩
theorem Ws.keep {X Y k N g : Nat} {w w' : World} (h : Ws X Y k N g w) (hb : Below w.heap.size w w') (hg : g < w.heap.size) : Ws X Y k N g w':=fun j hj=>by
  obtain ⟨h1,h2⟩:=h j hj
  exact ⟨(hb.cell (p:=⟨g,j,none⟩) hg).trans h1,(hb.frozen (p:=⟨g,j,none⟩) hg).trans h2⟩
theorem Ws.down {X Y k N g : Nat} {w : World} (h : Ws X Y (k + 1) N g w) {u : Int} (hu : u = (Qd.lim X k : Nat)) : Ws X Y k N g (w.setCell ⟨g,k,none⟩ (.int .i64 u)):=fun j hj=>by
  subst hu
  obtain ⟨h1,h2⟩:=h j hj
  by_cases he : j = k
  · subst he
    constructor
    · rw [World.cell?_setCell_same _ _ _ h1,if_neg (by omega)]
    · simpa using h2
  · constructor
    · rw [World.cell?_setCell_other _ _ _ _ (by intro hh;injection hh with a b;exact he b.symm)]
      rw [h1]
      congr 2
      by_cases h3 : j < k
      · rw [if_pos h3,if_pos (by omega)]
      · rw [if_neg h3,if_neg (by omega)]
    · simpa using h2
theorem built_row (W : World) (x : Int) : (W.alloc (.cells #[.int .i64 x] 3)).ownsRow W.heap.size 3 1 (.slice (some ⟨W.heap.size,0,none⟩) 1 1) 1 [.int .i64 x] :=
  ⟨by simp,.inr ⟨W.heap.size,1,#[.int .i64 x],rfl,Nat.le_refl _,heap_alloc_new W _,by omega,by unfold maxLen;omega,by simp,by simp⟩⟩
theorem run_app_nil (W : World) (x : Int) (c : Nat) : (Builtin.append_ #[72,72] 72 #[.slice (some ⟨W.heap.size,0,none⟩) 1 1,.slice none 0 c]).run Tryz.prog (W.alloc (.cells #[.int .i64 x] 3)) = .ok (.slice (some ⟨W.heap.size,0,none⟩) 1 1) (W.alloc (.cells #[.int .i64 x] 3)):=by
  obtain ⟨i0,hi,hz0,hz1,hz2⟩:=info_parts Tryz.info3
  simp [Builtin.append_,run_underlying Tryz.underlying72,sizeOf,typeInfo,hi,Builtin.lenOf,Builtin.firstCells,loadCells,loadCellsFrom]
  rfl
set_option maxHeartbeats 1000000 in
theorem refTrim_at (b : Bool) (p : Option Addr) (c : Nat) (n k : Nat) (hk : k <= 100000) (hn : n < Qd.bb ^ k) (w : World) (hm : Mg w (.slice p k c) (lims n k)) :
    Calls Tryz.prog 144 #[.agg #[.bool b,.slice p k c]] w fun e w'=>e = .returned (.agg #[.bool (b && !decide (n = 0)),.slice p (Qd.lsz n) c])/\Mags w' (.slice p (Qd.lsz n) c) n/\Below w.heap.size w w':=by
  obtain ⟨p',c',he',h0,hc⟩:=hm.parts
  injection he' with e1 e2 e3
  subst e1;subst e3
  clear e2
  have Hn:=Lib.hid hn;have Hc:=Lib.hid hc;have Hm:=Lib.hid hm
  obtain ⟨z,hz0⟩ : ∃ z,decide (n = 0) = z:=⟨_,rfl⟩
  rw [hz0]
  have Hz0:=Lib.hid hz0
  clear hn hc hm hz0
  go_enter Tryz.func144,Tryz.ntmps144
  go_wp2
  go_loop [3] (fun i=>∃ j : Nat,i = .int .i64 j/\j <= k/\n < Qd.bb ^ j) (fun i=>(intOf i).toNat)
  case atStart=>exact ⟨k,rfl,Nat.le_refl _,Hn.out⟩
  case round =>
    obtain ⟨j,rfl,hj,hjn⟩:=hrel
    have Hj:=Lib.hid hjn;clear hjn
    have fin : ∀ W',Below w.heap.size w W'->∀ j,j = Qd.lsz n->j <= k->Mags W' (.slice p j c) n:=fun W' hb j e hjk=>by
      subst e
      exact (Hm.out.upTo' hjk).keep hb
    have Fin:=Lib.hid fin;clear fin
    by_cases h : j = 0
    · subst h
      have hn0 : n = 0:=by have:=Hj.out;simpa using this
      have hz:=Lib.hid (show 0 = Qd.lsz n from (Qd.lsz_eq_zero.2 hn0).symm)
      have hd : decide (n = 0) = true:=by simpa using hn0
      obtain rfl : z = true:=Hz0.out.symm.trans hd
      clear hn0 hd
      go_wp2
      refine ret74 Tryz.results144 _ rfl _ _ (by simp;rfl) (by simp;rfl) rfl ?_
      exact ⟨by rw [<- hz.out],by rw [<- hz.out];exact Fin.out _ (by repeat' first | exact Below.refl _ _ | assumption | refine Below.setCell ?_ ?_ _ | refine Below.alloc ?_ ?_ _ | refine below_drewN ?_ | refine Below.drew ?_ | (simp;done) | (simp;omega)) 0 hz.out (by omega),(by repeat' first | exact Below.refl _ _ | assumption | refine Below.setCell ?_ ?_ _ | refine Below.alloc ?_ ?_ _ | refine below_drewN ?_ | refine Below.drew ?_ | (simp;done) | (simp;omega))⟩
    · obtain ⟨g,rfl,hg,hx⟩:=Hc.out (by omega)
      have hcell:=hx (j - 1) (by omega)
      have d1 : decide ((0 : Int) < (j : Int)) = true:=by simp;omega
      by_cases h2 : Qd.lim n (j - 1) = 0
      · rw [h2] at hcell
        have hnew:=Lib.hid (Qd.lsz_down (j:=j - 1) (by rw [show j - 1 + 1 = j by omega];exact Hj.out) h2)
        clear hx h2
        go_wp2
        go_round
        case rel=>exact ⟨j - 1,by go_num,by omega,hnew.out⟩
        case measure=>simp [intOf];omega
      · have hz:=Lib.hid (show j = Qd.lsz n from by
          have h3:=(Qd.lsz_le_iff j n).2 Hj.out
          have h4:=Qd.lsz_stop h2
          omega)
        have hd : decide (n = 0) = false:=by
          simp only [decide_eq_false_iff_not];intro e;subst e;exact h2 (Qd.lim_zero _)
        obtain rfl : z = false:=Hz0.out.symm.trans hd
        clear hd
        obtain ⟨x,hx0⟩ : ∃ x,Qd.lim n (j - 1) = x:=⟨_,rfl⟩
        rw [hx0] at hcell h2
        have d2 : decide ((x : Int) = 0) = false:=by simp;omega
        have d3 : decide ((j : Int) = 0) = false:=by simp;omega
        clear hx hx0
        go_wp2
        refine ret74 Tryz.results144 _ rfl _ _ (by simp;rfl) (by simp;rfl) rfl ?_
        exact ⟨by rw [<- hz.out],by rw [<- hz.out];exact Fin.out _ (by repeat' first | exact Below.refl _ _ | assumption | refine Below.setCell ?_ ?_ _ | refine Below.alloc ?_ ?_ _ | refine below_drewN ?_ | refine Below.drew ?_ | (simp;done) | (simp;omega)) j hz.out hj,(by repeat' first | exact Below.refl _ _ | assumption | refine Below.setCell ?_ ?_ _ | refine Below.alloc ?_ ?_ _ | refine below_drewN ?_ | refine Below.drew ?_ | (simp;done) | (simp;omega))⟩
set_option maxRecDepth 100000 in
theorem wpList_app_rest {ops : Array Oper} {rest : List Oper} {o : Oper} {a : Act} {Q : Exit->Act->World->Prop} (hgd : o.guard = none) (s x : Operand)
    (ho : o.op = .call { callee:=.builtin .append,args:=#[s,x],argTypes:=#[72,72] }) (hty : o.type = 72) (W : World) (xv r k : Nat) (hb : xv < Qd.bb) (hk : k <= 20000) (sv v : Value)
    (hs : a.eval s = sv) (hx : a.eval x = v) (hsv : sv = .slice (some ⟨W.heap.size,0,none⟩) 1 1) (hm : Mg W v (lims r k))
    (h : ∀ g c w',Mg w' (.slice (some ⟨g,0,none⟩) (k + 1) c) (lims (r * Qd.bb + xv) (k + 1))->W.heap.size <= g->Below W.heap.size W w'->wpList Tryz.prog ops Q rest (a.put o.dst (.slice (some ⟨g,0,none⟩) (k + 1) c)) w') : wpList Tryz.prog ops Q (o :: rest) a (W.alloc (.cells #[.int .i64 xv] 3)):=by
  obtain ⟨i0,hi,hz0,hz1,hz2⟩:=info_parts Tryz.info3
  subst hsv
  obtain ⟨p,c,rfl,hc,hx2⟩:=hm.parts
  have hlow : Below W.heap.size W (W.alloc (.cells #[.int .i64 (xv : Int)] 3)):=(Below.refl _ W).alloc (Nat.le_refl _) _
  have hcons:=Qd.lims_cons r k xv hb
  cases p with
  | none =>
    have hk0 : k = 0:=Nat.eq_zero_of_not_pos fun hp=>by
      obtain ⟨g,hg,_⟩:=hx2 (by omega)
      cases hg
    subst hk0
    refine wpList_plain hgd fun K hK=>?_
    have hrun:=run_app_nil W xv c
    unfold Oper.wp execOp
    simp only [ho,hty,resolve,invoke,builtin,Sem.run_bind,Sem.run_pure,Result.andThen_ok,List.map_toArray,List.map_cons,List.map_nil,hs,hx,hrun]
    refine hK _ _ (h _ _ _ ?_ (Nat.le_refl _) hlow)
    have:=mg_of_row (l:=[xv]) (built_row W xv)
    rw [<- hcons]
    exact this
  | some ad =>
    have had : ∀ j u,(limV (lims r k))[j]? = some u->(W.alloc (.cells #[.int .i64 (xv : Int)] 3)).cell? (ad.add j) = some u:=by
      intro j u hu
      have hj : j < k:=by
        have:=(List.getElem?_eq_some_iff.1 hu).1
        simpa [limV,Qd.lims_length] using this
      obtain ⟨g,hg,hgs,hcell⟩:=hx2 (by omega)
      injection hg with hg
      subst hg
      rw [show (⟨g,0,none⟩ : Addr).add j = ⟨g,j,none⟩ by rw [Addr.add_lit,Nat.zero_add]]
      have h1:=hcell j hj
      have h2 : u = .int .i64 (Qd.lim r j : Nat):=by
        have h3:=(List.getElem?_eq_some_iff.1 hu).2
        rw [<- h3]
        simp [limV,Qd.lims]
      rw [h2]
      exact (hlow.cell (p:=⟨g,j,none⟩) hgs).trans h1
    refine wpList_append_own _ hgd s x 72 ho W.heap.size 3 i0 (.int .i64 0) 1 8 Tryz.underlying72 hi hz0 hz1 hz2 rfl (by decide) _ _ _ hs (built_row W xv) ad k c (limV (lims r k)) hx (by simp [limV,Qd.lims_length]) had (by simp [limV,Value.oneCell']) (by unfold maxLen;omega) (by omega) (by simp) ?_
    intro v' w' hown hgrow _
    have hl2 : limV [xv] ++ limV (lims r k) = limV (xv :: lims r k):=by simp [limV]
    have hown2 : w'.ownsRow W.heap.size 3 1 v' (k + 1) (limV (xv :: lims r k)):=by rw [<- hl2,Nat.add_comm];exact hown
    obtain ⟨g',c',rfl⟩:=ownsRow_succ hown2
    refine h g' c' w' ?_ (hown2.lt g' rfl).1 (hlow.grown hgrow (by simp) (fun j hj=>by cases hj;exact Nat.le_refl _))
    rw [<- hcons]
    exact mg_of_row hown2
end
section
open Go.RowKit
open Qd (lims)
set_option maxHeartbeats 4000000 in
set_option maxRecDepth 100000 in
theorem refOverM_any (s t : Value) (m n : Nat) (hn : 0 < n) (h1 : Qd.lsz m <= 5000) (h2 : Qd.lsz n <= 5000) (w : World) (hs : Mags w s m) (ht : Mags w t n) :
    Calls Tryz.prog 158 #[s,t] w fun e w'=>∃ v u,e = .returned (.tuple #[v,u])/\Mags w' v (m / n)/\Mags w' u (m % n)/\Below w.heap.size w w':=by
  have hT:=Lib.hid ht
  obtain ⟨p,c1,rfl,_,hx⟩:=hs.parts
  obtain ⟨q,d1,rfl,_,_⟩:=ht.parts
  have Hn:=Lib.hid hn
  have HB:=Lib.hid (fun i=>rq_lt m n i hn)
  have HM:=Lib.hid (fun i=>rq_mod m n i)
  have HD:=Lib.hid (fun i=>rq_div m n i hn)
  have hmtop:=Qd.lsz_lt m
  have Hz2:=Lib.hid h2
  obtain ⟨a,ha⟩ : ∃ a,Qd.lsz m = a:=⟨_,rfl⟩
  obtain ⟨b,hb⟩ : ∃ b,Qd.lsz n = b:=⟨_,rfl⟩
  rw [ha] at h1 hx hmtop ⊢
  rw [hb] at h2 ⊢
  have Hx:=Lib.hid hx
  have Htop:=Lib.hid hmtop
  rw [hb] at hT
  clear hs ht ha hx hn hmtop
  have hws:=made_ws w a w.heap.size rfl
  have hbw : Below w.heap.size w (w.alloc (.cells (madeCells #[.int .i64 0] a) 3)):=(by repeat' first | exact Below.refl _ _ | assumption | refine Below.setCell ?_ ?_ _ | refine Below.alloc ?_ ?_ _ | refine below_drewN ?_ | refine Below.drew ?_ | (simp;done) | (simp;omega))
  have hsz : (w.alloc (.cells (madeCells #[.int .i64 0] a) 3)).heap.size = w.heap.size + 1:=by simp
  go_enter Tryz.func158,Tryz.ntmps158
  go_wp2_with (with_reducible refine mk72 w.heap.size a _ ⟨rfl,_,_,rfl,rfl,rfl⟩ rfl rfl (by omega) ?_)
  generalize w.alloc (Obj.cells (madeCells #[.int .i64 0] a) 3) = W1 at *
  have Hws:=Lib.hid hws;have Hbw:=Lib.hid hbw
  clear hws hbw
  go_loopw [7,8] (fun v vi wr=>∃ i : Nat,∃ t : Int,i <= a/\vi = .int .i64 t/\t = (i : Int) - 1/\Mags wr v (m / Qd.bb ^ i % n)/\Ws (m / n) 0 i a w.heap.size wr/\Below w.heap.size w wr/\w.heap.size < wr.heap.size) (fun _ vi _=>(intOf vi + 1).toNat)
  case atStart =>
    refine ⟨a,_,Nat.le_refl _,rfl,rfl,?_,Hws.out.same fun j hj=>?_,Hbw.out,by omega⟩
    · rw [Nat.div_eq_of_lt Htop.out,Nat.zero_mod]
      exact ⟨none,0,by rw [Qd.lims_length,Qd.lsz_zero],by rw [Qd.lims_length,Qd.lsz_zero];omega,fun h=>absurd (by rw [Qd.lsz_zero];rfl) h⟩
    · rw [if_neg (by omega),if_pos (by omega)]
  case round =>
    obtain ⟨i1,t,hi1,rfl,ht,hm,hw,hbl,hlt0⟩:=hrel
    have HW:=Lib.hid hw;have HBL:=Lib.hid hbl
    clear hw hbl
    obtain ⟨pr,cr,rfl,_,_⟩:=hm.parts
    by_cases h0 : i1 = 0
    · subst h0
      have d0 : decide ((0 : Int) <= t) = false:=by simp;omega
      have hmg:=HW.out.mg (c:=a) hlt0 (Nat.le_refl _)
      have hqt : m / n < Qd.bb ^ a:=Nat.lt_of_le_of_lt (Nat.div_le_self m n) Htop.out
      have CT:=Lib.hid (refTrim_at false (some ⟨w.heap.size,0,none⟩) a (m / n) a (by omega) hqt wr hmg)
      have e0 : m / Qd.bb ^ 0 % n = m % n:=by rw [Nat.pow_zero,Nat.div_one]
      rw [e0] at hm ⊢
      have hm1:=hm
      have HM1:=Lib.hid hm1
      clear hm hm1 hmg hqt ht e0
      go_wp2_with (first
        | (with_reducible refine fd74 _ _ _ _ ⟨rfl,_,rfl,rfl⟩ ?_)
        | (go_at_call 144;(with_reducible refine (CT.out).mono ?_);rintro e w4 ⟨rfl,hm4,hb4⟩;have hl4:=HBL.out.trans (hb4.mono HBL.out.size)))
      go_ret2
      exact ⟨_,_,rfl,hm4,HM1.out.keep hb4,hl4⟩
    · obtain ⟨i,rfl⟩ : ∃ i,i1 = i + 1:=⟨i1 - 1,by omega⟩
      have ht2 : t = (i : Int):=by omega
      clear ht h0
      subst ht2
      obtain ⟨ga,rfl,_,hxs⟩:=Hx.out (by omega)
      have hca:=cell_keep (hxs i (by omega)) HBL.out
      have hR1:=HB.out i
      have hR2:=HM.out i
      have hR3:=HD.out i
      have hx4:=Qd.lim_lt m i
      have hrn:=Nat.mod_lt (m / Qd.bb ^ (i + 1)) Hn.out
      obtain ⟨x,hx0⟩ : ∃ x,Qd.lim m i = x:=⟨_,rfl⟩
      obtain ⟨r,hr0⟩ : ∃ r,m / Qd.bb ^ (i + 1) % n = r:=⟨_,rfl⟩
      rw [hx0] at hca hx4
      rw [hx0,hr0] at hR1 hR2 hR3
      rw [hr0] at hm hrn ⊢
      have hlr : Qd.lsz r <= 5000:=Nat.le_trans (Qd.lsz_mono (Nat.le_of_lt hrn)) Hz2.out
      obtain ⟨R,hR⟩ : ∃ R,r * Qd.bb + x = R:=⟨_,rfl⟩
      rw [hR] at hR1 hR2 hR3
      have hlR : Qd.lsz R <= 5001:=Nat.le_trans (lsz_step hR1) (by have:=Hz2.out;omega)
      have CTr:=Lib.hid (fun W p c (g : Mg W (.slice p (Qd.lsz r + 1) c) (lims R (Qd.lsz r + 1)))=>refTrim_at false p c R (Qd.lsz r + 1) (by omega) (by
        have h5:=Qd.lsz_lt r
        rw [<- hR,Nat.pow_succ]
        have h6 : (r + 1) * Qd.bb <= Qd.bb ^ Qd.lsz r * Qd.bb:=Nat.mul_le_mul_right _ h5
        rw [Nat.add_mul] at h6
        omega) W g)
      have CMg:=Lib.hid (fun W v (hb : Below w.heap.size w W) (g : Mags W v R)=>refMag_any v _ R n (by omega) (Nat.le_trans Hz2.out (by decide)) W g (hT.out.keep hb))
      have hcz:=cmpN_lt R n
      obtain ⟨cz,hcz0⟩ : ∃ z,cmpN R n = z:=⟨_,rfl⟩
      rw [hcz0] at CMg hcz
      have HRx:=Lib.hid hR
      have hm2:=Lib.hid hm
      clear hx0 hr0 hm hR hcz0
      have d0 : decide ((0 : Int) <= (i : Int)) = true:=by simp
      by_cases hRn : R < n
      · rw [decide_eq_true hRn] at hcz
        go_wp2_with (first
          | (with_reducible refine fd74 _ _ _ _ ⟨rfl,_,rfl,rfl⟩ ?_)
          | (at_builtin;refine wpList_app_rest rfl _ _ rfl rfl wr x r (Qd.lsz r) hx4 (by omega) _ _ rfl rfl (by rfl) (by exact hm2.out) ?_;intro g3 c3 w3 hm3 hg3 hb3;rw [HRx.out] at hm3;have hl3:=Below.trans HBL.out (Below.mono hb3 (Below.size HBL.out));have hW3:=HW.out.keep hb3 hlt0;have hs3:=hb3.size;clear hb3)
          | (go_at_call 144;(with_reducible refine (CTr.out _ _ _ hm3).mono ?_);rintro e w4 ⟨rfl,hm4,hb4⟩;have hl4:=Below.trans hl3 (Below.mono hb4 (Below.size hl3));have hW4:=hW3.keep hb4 (by omega);have hs4:=hb4.size;clear hb4)
          | (go_at_call 149;(with_reducible refine (CMg.out _ _ hl4 hm4).mono ?_);rintro e w5 ⟨rfl,hb5⟩;have hl5:=Below.trans hl4 (Below.mono hb5 (Below.size hl4));have hW5:=hW4.keep hb5 (by omega);have hm5:=hm4.keep hb5;have hs5:=hb5.size;clear hb5))
        obtain ⟨W5,hW5e⟩ : ∃ W,W = w5:=⟨_,rfl⟩
        subst hW5e
        have HL5:=Lib.hid hl5;have HWS:=Lib.hid hW5;have HM5:=Lib.hid hm5
        have hlt5 : w.heap.size < W5.heap.size:=by omega
        clear hl5 hW5 hm5 hl4 hl3 hm3 hm4 hW3 hW4 hm2 CTr CMg
        go_loopw [9,10] (fun vl vh w6=>∃ lo hi : Nat,vl = .int .i64 lo/\vh = .int .i64 hi/\lo <= hi/\hi <= 9999/\n * lo <= R/\R < n * (hi + 1)/\Below W5.heap.size W5 w6) (fun vl vh _=>(intOf vh).toNat - (intOf vl).toNat)
        case atStart=>exact ⟨0,0,rfl,rfl,by omega,by omega,by omega,by (rw [Nat.zero_add,Nat.mul_one];exact hRn),Below.refl _ _⟩
        case round =>
          obtain ⟨lo,hi,rfl,rfl,hlh,hh9,hlo,hhi,hb6⟩:=hrel
          have HLO:=Lib.hid hlo;have HHI:=Lib.hid hhi;have HB6:=Lib.hid hb6
          have hs6:=hb6.size
          have HL6:=Lib.hid (HL5.out.trans (hb6.mono HL5.out.size))
          have HM6:=Lib.hid (HM5.out.keep hb6)
          clear hlo hhi hb6
          by_cases hlt : lo < hi
          · obtain ⟨mid,hmid⟩ : ∃ x,(lo + hi + 1) / 2 = x:=⟨_,rfl⟩
            have hq : ((lo : Int) + (hi : Int) + 1) / 2 = (mid : Int):=by omega
            have hm1 : lo < mid:=by omega
            have hm9 : mid <= hi:=by omega
            have d2 : decide ((lo : Int) < (hi : Int)) = true:=by simp;omega
            clear hmid
            have CB:=Lib.hid (refByLimb_any (.slice q b d1) n mid (by have:=Hz2.out;omega) (by omega) (by omega) wr (hT.out.keep HL6.out))
            have hlp : Qd.lsz (n * mid) <= 5001:=Nat.le_trans (lsz_step (Nat.mul_lt_mul_of_pos_left (show mid < Qd.bb by show mid < 10000;omega) Hn.out)) (by have:=Hz2.out;omega)
            have CT2:=Lib.hid (fun W v (g : Mags W v (n * mid))=>refTrim_any false v (n * mid) _ (by omega) (Qd.lsz_lt _) W g)
            have CM2:=Lib.hid (fun W v (hb : Below wr.heap.size wr W) (g : Mags W v (n * mid))=>refMag_any v _ (n * mid) R (by omega) (by omega) W g (HM6.out.keep hb))
            have hcz2:=cmpN_le (n * mid) R
            obtain ⟨cy,hcy0⟩ : ∃ z,cmpN (n * mid) R = z:=⟨_,rfl⟩
            rw [hcy0] at CM2 hcz2
            obtain ⟨P,hP⟩ : ∃ P,n * mid = P:=⟨_,rfl⟩
            rw [hP] at CB CT2 CM2 hcz2
            have HP:=Lib.hid hP
            clear hP hcy0 hlp
            by_cases hPR : P <= R
            · rw [decide_eq_true hPR] at hcz2
              go_wp2_with (first
                | (with_reducible refine fd74 _ _ _ _ ⟨rfl,_,rfl,rfl⟩ ?_)
                | (go_at_call 199;(with_reducible refine (CB.out).mono ?_);rintro e w7 ⟨v7,rfl,hm7,hb7⟩;obtain ⟨p7,c7,rfl,_,_⟩:=hm7.parts)
                | (go_at_call 144;(with_reducible refine (CT2.out _ _ hm7).mono ?_);rintro e w8 ⟨v8,rfl,hm8,hb8⟩;obtain ⟨p8,c8,rfl,_,_⟩:=hm8.parts;have hl8:=hb7.trans (hb8.mono hb7.size))
                | (go_at_call 149;(with_reducible refine (CM2.out _ _ hl8 hm8).mono ?_);rintro e w9 ⟨rfl,hb9⟩;have hl9:=hl8.trans (hb9.mono hl8.size)))
              go_roundw
              case rel=>exact ⟨mid,hi,by first | rfl | go_num,rfl,hm9,hh9,by rw [HP.out];exact hPR,HHI.out,HB6.out.trans (hl9.mono HB6.out.size)⟩
              case measure=>simp [intOf];omega
            · rw [decide_eq_false hPR] at hcz2
              go_wp2_with (first
                | (with_reducible refine fd74 _ _ _ _ ⟨rfl,_,rfl,rfl⟩ ?_)
                | (go_at_call 199;(with_reducible refine (CB.out).mono ?_);rintro e w7 ⟨v7,rfl,hm7,hb7⟩;obtain ⟨p7,c7,rfl,_,_⟩:=hm7.parts)
                | (go_at_call 144;(with_reducible refine (CT2.out _ _ hm7).mono ?_);rintro e w8 ⟨v8,rfl,hm8,hb8⟩;obtain ⟨p8,c8,rfl,_,_⟩:=hm8.parts;have hl8:=hb7.trans (hb8.mono hb7.size))
                | (go_at_call 149;(with_reducible refine (CM2.out _ _ hl8 hm8).mono ?_);rintro e w9 ⟨rfl,hb9⟩;have hl9:=hl8.trans (hb9.mono hl8.size)))
              go_roundw
              case rel=>exact ⟨lo,mid - 1,rfl,by go_num,by omega,by omega,HLO.out,by rw [show mid - 1 + 1 = mid by omega,HP.out];omega,HB6.out.trans (hl9.mono HB6.out.size)⟩
              case measure=>simp [intOf];omega
          · have hlh2 : hi = lo:=by omega
            subst hlh2
            have d2 : decide ((hi : Int) < (hi : Int)) = false:=by simp
            have hqd : R / n = hi:=Nat.div_eq_of_lt_le (by rw [Nat.mul_comm];exact HLO.out) (by rw [Nat.mul_comm];exact HHI.out)
            have hrm : R - n * hi = R % n:=by rw [<- hqd];have:=Nat.div_add_mod R n;omega
            have hia : i < a:=by omega
            have hW6:=HWS.out.keep HB6.out hlt5
            have hc6:=(hW6 i hia).1
            have hf6:=(hW6 i hia).2
            have hs6:=HB6.out.size
            have hdig : (hi : Int) = (Qd.lim (m / n) i : Nat):=by rw [<- hR3,hqd]
            have hne : g3 ≠ w.heap.size:=by omega
            have hmS:=HM6.out.set_ne hne i (.int .i64 (hi : Int))
            have hWS:=hW6.down hdig
            have hBS : Below w.heap.size w (wr.setCell ⟨w.heap.size,i,none⟩ (.int .i64 (hi : Int))):=HL6.out.setCell (Nat.le_refl _) _
            have hsS : (wr.setCell ⟨w.heap.size,i,none⟩ (.int .i64 (hi : Int))).heap.size = wr.heap.size:=by simp
            have HMS:=Lib.hid hmS;have HWSS:=Lib.hid hWS;have HBS:=Lib.hid hBS
            clear hW6 hmS hWS hBS hdig
            by_cases hz : hi = 0
            · have d3 : decide ((0 : Int) < (hi : Int)) = false:=by simp;omega
              have d3' : decide (0 < hi) = false:=by simp;omega
              have hrr : R = m / Qd.bb ^ i % n:=by rw [<- hR2,<- hrm,hz];omega
              have HRR:=Lib.hid hrr
              clear hrr hrm hqd hz
              go_wp2
              go_roundw
              case rel=>exact ⟨i,(i : Int) - 1,by omega,by first | rfl | go_num,rfl,by rw [<- HRR.out];exact HMS.out,HWSS.out,HBS.out,by simp;omega⟩
              case measure=>simp [intOf]
            · have d3 : decide ((0 : Int) < (hi : Int)) = true:=by simp;omega
              have d3' : decide (0 < hi) = true:=by simp;omega
              have CB3:=Lib.hid (refByLimb_any (.slice q b d1) n hi (by have:=Hz2.out;omega) (by omega) (by omega) (wr.setCell ⟨w.heap.size,i,none⟩ (.int .i64 (hi : Int))) (hT.out.keep HBS.out))
              have CM3:=Lib.hid (fun W v (g1 : Mags W (.slice (some ⟨g3,0,none⟩) (Qd.lsz R) c3) R) (g2 : Mags W v (n * hi))=>refMinusM_any _ v R (n * hi) HLO.out (by omega) W g1 g2)
              rw [hrm,hR2] at CM3
              clear hrm hqd hz
              go_wp2_with (first
                | (go_at_call 199;(with_reducible refine (CB3.out).mono ?_);rintro e w7 ⟨v7,rfl,hm7,hb7⟩;obtain ⟨p7,c7,rfl,_,_⟩:=hm7.parts;have hr7:=HMS.out.keep hb7;have hW7:=HWSS.out.keep hb7 (by omega);have hl7:=HBS.out.trans (hb7.mono HBS.out.size);have hs7:=hb7.size)
                | (go_at_call 150;refine (CM3.out _ _ hr7 hm7).mono ?_;rintro e w8 ⟨v8,rfl,hm8,hb8⟩;obtain ⟨p8,c8,rfl,_,_⟩:=hm8.parts;have hW8:=hW7.keep hb8 (by omega);have hl8:=hl7.trans (hb8.mono hl7.size);have hs8:=hb8.size))
              go_roundw
              case rel=>exact ⟨i,(i : Int) - 1,by omega,by first | rfl | go_num,rfl,hm8,hW8,hl8,by omega⟩
              case measure=>simp [intOf]
      · rw [decide_eq_false hRn] at hcz
        go_wp2_with (first
          | (with_reducible refine fd74 _ _ _ _ ⟨rfl,_,rfl,rfl⟩ ?_)
          | (at_builtin;refine wpList_app_rest rfl _ _ rfl rfl wr x r (Qd.lsz r) hx4 (by omega) _ _ rfl rfl (by rfl) (by exact hm2.out) ?_;intro g3 c3 w3 hm3 hg3 hb3;rw [HRx.out] at hm3;have hl3:=Below.trans HBL.out (Below.mono hb3 (Below.size HBL.out));have hW3:=HW.out.keep hb3 hlt0;have hs3:=hb3.size;clear hb3)
          | (go_at_call 144;(with_reducible refine (CTr.out _ _ _ hm3).mono ?_);rintro e w4 ⟨rfl,hm4,hb4⟩;have hl4:=Below.trans hl3 (Below.mono hb4 (Below.size hl3));have hW4:=hW3.keep hb4 (by omega);have hs4:=hb4.size;clear hb4)
          | (go_at_call 149;(with_reducible refine (CMg.out _ _ hl4 hm4).mono ?_);rintro e w5 ⟨rfl,hb5⟩;have hl5:=Below.trans hl4 (Below.mono hb5 (Below.size hl4));have hW5:=hW4.keep hb5 (by omega);have hm5:=hm4.keep hb5;have hs5:=hb5.size;clear hb5))
        obtain ⟨W5,hW5e⟩ : ∃ W,W = w5:=⟨_,rfl⟩
        subst hW5e
        have HL5:=Lib.hid hl5;have HWS:=Lib.hid hW5;have HM5:=Lib.hid hm5
        have hlt5 : w.heap.size < W5.heap.size:=by omega
        clear hl5 hW5 hm5 hl4 hl3 hm3 hm4 hW3 hW4 hm2 CTr CMg
        go_loopw [9,10] (fun vl vh w6=>∃ lo hi : Nat,vl = .int .i64 lo/\vh = .int .i64 hi/\lo <= hi/\hi <= 9999/\n * lo <= R/\R < n * (hi + 1)/\Below W5.heap.size W5 w6) (fun vl vh _=>(intOf vh).toNat - (intOf vl).toNat)
        case atStart=>exact ⟨0,9999,rfl,rfl,by omega,by omega,by omega,by exact hR1,Below.refl _ _⟩
        case round =>
          obtain ⟨lo,hi,rfl,rfl,hlh,hh9,hlo,hhi,hb6⟩:=hrel
          have HLO:=Lib.hid hlo;have HHI:=Lib.hid hhi;have HB6:=Lib.hid hb6
          have hs6:=hb6.size
          have HL6:=Lib.hid (HL5.out.trans (hb6.mono HL5.out.size))
          have HM6:=Lib.hid (HM5.out.keep hb6)
          clear hlo hhi hb6
          by_cases hlt : lo < hi
          · obtain ⟨mid,hmid⟩ : ∃ x,(lo + hi + 1) / 2 = x:=⟨_,rfl⟩
            have hq : ((lo : Int) + (hi : Int) + 1) / 2 = (mid : Int):=by omega
            have hm1 : lo < mid:=by omega
            have hm9 : mid <= hi:=by omega
            have d2 : decide ((lo : Int) < (hi : Int)) = true:=by simp;omega
            clear hmid
            have CB:=Lib.hid (refByLimb_any (.slice q b d1) n mid (by have:=Hz2.out;omega) (by omega) (by omega) wr (hT.out.keep HL6.out))
            have hlp : Qd.lsz (n * mid) <= 5001:=Nat.le_trans (lsz_step (Nat.mul_lt_mul_of_pos_left (show mid < Qd.bb by show mid < 10000;omega) Hn.out)) (by have:=Hz2.out;omega)
            have CT2:=Lib.hid (fun W v (g : Mags W v (n * mid))=>refTrim_any false v (n * mid) _ (by omega) (Qd.lsz_lt _) W g)
            have CM2:=Lib.hid (fun W v (hb : Below wr.heap.size wr W) (g : Mags W v (n * mid))=>refMag_any v _ (n * mid) R (by omega) (by omega) W g (HM6.out.keep hb))
            have hcz2:=cmpN_le (n * mid) R
            obtain ⟨cy,hcy0⟩ : ∃ z,cmpN (n * mid) R = z:=⟨_,rfl⟩
            rw [hcy0] at CM2 hcz2
            obtain ⟨P,hP⟩ : ∃ P,n * mid = P:=⟨_,rfl⟩
            rw [hP] at CB CT2 CM2 hcz2
            have HP:=Lib.hid hP
            clear hP hcy0 hlp
            by_cases hPR : P <= R
            · rw [decide_eq_true hPR] at hcz2
              go_wp2_with (first
                | (with_reducible refine fd74 _ _ _ _ ⟨rfl,_,rfl,rfl⟩ ?_)
                | (go_at_call 199;(with_reducible refine (CB.out).mono ?_);rintro e w7 ⟨v7,rfl,hm7,hb7⟩;obtain ⟨p7,c7,rfl,_,_⟩:=hm7.parts)
                | (go_at_call 144;(with_reducible refine (CT2.out _ _ hm7).mono ?_);rintro e w8 ⟨v8,rfl,hm8,hb8⟩;obtain ⟨p8,c8,rfl,_,_⟩:=hm8.parts;have hl8:=hb7.trans (hb8.mono hb7.size))
                | (go_at_call 149;(with_reducible refine (CM2.out _ _ hl8 hm8).mono ?_);rintro e w9 ⟨rfl,hb9⟩;have hl9:=hl8.trans (hb9.mono hl8.size)))
              go_roundw
              case rel=>exact ⟨mid,hi,by first | rfl | go_num,rfl,hm9,hh9,by rw [HP.out];exact hPR,HHI.out,HB6.out.trans (hl9.mono HB6.out.size)⟩
              case measure=>simp [intOf];omega
            · rw [decide_eq_false hPR] at hcz2
              go_wp2_with (first
                | (with_reducible refine fd74 _ _ _ _ ⟨rfl,_,rfl,rfl⟩ ?_)
                | (go_at_call 199;(with_reducible refine (CB.out).mono ?_);rintro e w7 ⟨v7,rfl,hm7,hb7⟩;obtain ⟨p7,c7,rfl,_,_⟩:=hm7.parts)
                | (go_at_call 144;(with_reducible refine (CT2.out _ _ hm7).mono ?_);rintro e w8 ⟨v8,rfl,hm8,hb8⟩;obtain ⟨p8,c8,rfl,_,_⟩:=hm8.parts;have hl8:=hb7.trans (hb8.mono hb7.size))
                | (go_at_call 149;(with_reducible refine (CM2.out _ _ hl8 hm8).mono ?_);rintro e w9 ⟨rfl,hb9⟩;have hl9:=hl8.trans (hb9.mono hl8.size)))
              go_roundw
              case rel=>exact ⟨lo,mid - 1,rfl,by go_num,by omega,by omega,HLO.out,by rw [show mid - 1 + 1 = mid by omega,HP.out];omega,HB6.out.trans (hl9.mono HB6.out.size)⟩
              case measure=>simp [intOf];omega
          · have hlh2 : hi = lo:=by omega
            subst hlh2
            have d2 : decide ((hi : Int) < (hi : Int)) = false:=by simp
            have hqd : R / n = hi:=Nat.div_eq_of_lt_le (by rw [Nat.mul_comm];exact HLO.out) (by rw [Nat.mul_comm];exact HHI.out)
            have hrm : R - n * hi = R % n:=by rw [<- hqd];have:=Nat.div_add_mod R n;omega
            have hia : i < a:=by omega
            have hW6:=HWS.out.keep HB6.out hlt5
            have hc6:=(hW6 i hia).1
            have hf6:=(hW6 i hia).2
            have hs6:=HB6.out.size
            have hdig : (hi : Int) = (Qd.lim (m / n) i : Nat):=by rw [<- hR3,hqd]
            have hne : g3 ≠ w.heap.size:=by omega
            have hmS:=HM6.out.set_ne hne i (.int .i64 (hi : Int))
            have hWS:=hW6.down hdig
            have hBS : Below w.heap.size w (wr.setCell ⟨w.heap.size,i,none⟩ (.int .i64 (hi : Int))):=HL6.out.setCell (Nat.le_refl _) _
            have hsS : (wr.setCell ⟨w.heap.size,i,none⟩ (.int .i64 (hi : Int))).heap.size = wr.heap.size:=by simp
            have HMS:=Lib.hid hmS;have HWSS:=Lib.hid hWS;have HBS:=Lib.hid hBS
            clear hW6 hmS hWS hBS hdig
            by_cases hz : hi = 0
            · have d3 : decide ((0 : Int) < (hi : Int)) = false:=by simp;omega
              have d3' : decide (0 < hi) = false:=by simp;omega
              have hrr : R = m / Qd.bb ^ i % n:=by rw [<- hR2,<- hrm,hz];omega
              have HRR:=Lib.hid hrr
              clear hrr hrm hqd hz
              go_wp2
              go_roundw
              case rel=>exact ⟨i,(i : Int) - 1,by omega,by first | rfl | go_num,rfl,by rw [<- HRR.out];exact HMS.out,HWSS.out,HBS.out,by simp;omega⟩
              case measure=>simp [intOf]
            · have d3 : decide ((0 : Int) < (hi : Int)) = true:=by simp;omega
              have d3' : decide (0 < hi) = true:=by simp;omega
              have CB3:=Lib.hid (refByLimb_any (.slice q b d1) n hi (by have:=Hz2.out;omega) (by omega) (by omega) (wr.setCell ⟨w.heap.size,i,none⟩ (.int .i64 (hi : Int))) (hT.out.keep HBS.out))
              have CM3:=Lib.hid (fun W v (g1 : Mags W (.slice (some ⟨g3,0,none⟩) (Qd.lsz R) c3) R) (g2 : Mags W v (n * hi))=>refMinusM_any _ v R (n * hi) HLO.out (by omega) W g1 g2)
              rw [hrm,hR2] at CM3
              clear hrm hqd hz
              go_wp2_with (first
                | (go_at_call 199;(with_reducible refine (CB3.out).mono ?_);rintro e w7 ⟨v7,rfl,hm7,hb7⟩;obtain ⟨p7,c7,rfl,_,_⟩:=hm7.parts;have hr7:=HMS.out.keep hb7;have hW7:=HWSS.out.keep hb7 (by omega);have hl7:=HBS.out.trans (hb7.mono HBS.out.size);have hs7:=hb7.size)
                | (go_at_call 150;refine (CM3.out _ _ hr7 hm7).mono ?_;rintro e w8 ⟨v8,rfl,hm8,hb8⟩;obtain ⟨p8,c8,rfl,_,_⟩:=hm8.parts;have hW8:=hW7.keep hb8 (by omega);have hl8:=hl7.trans (hb8.mono hl7.size);have hs8:=hb8.size))
              go_roundw
              case rel=>exact ⟨i,(i : Int) - 1,by omega,by first | rfl | go_num,rfl,hm8,hW8,hl8,by omega⟩
              case measure=>simp [intOf]
end
end Go.Proofs.YtpbegoflpfdajaaGreatDoor
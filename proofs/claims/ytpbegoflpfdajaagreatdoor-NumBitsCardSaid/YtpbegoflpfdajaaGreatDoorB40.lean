/- WHAT IS PROVED: contracts of functions of the numbers package and laws for them, used by the last text of this claim. CONDITIONS: stated at each theorem. -/
import Derived.Test.YtpbegoflpfdajaaGreatDoorB39
namespace Go.Proofs.YtpbegoflpfdajaaGreatDoor
section
open Go.RowKit
open Qd (lims)
theorem lsz_okz {x : ByteArray} (h : Okz x) : Qd.lsz (vz x).natAbs <= 30:=by
  refine (Qd.lsz_le_iff 30 _).2 ?_
  rw [bb_ten4,vz_abs]
  obtain ⟨h1,h2,_,h4⟩:=okz_parts h
  exact Nat.lt_of_lt_of_le (valL_lt _ h2) (Nat.pow_le_pow_right (by omega) h4)
theorem refReadZ (x : ByteArray) (h : Okz x) (w : World) : Calls Tryz.prog 70 #[.string x] w fun e w'=>∃ v,e = .returned v/\BigAt w' v (vz x)/\Below w.heap.size w w':=by
  obtain ⟨h1,h2,h3,h4⟩:=okz_parts h
  rcases noMinus_cases x.data.toList with ⟨t,ht,hn⟩ | ⟨hh,hn⟩
  · rw [hn] at h1 h2 h4
    have:=refRead_m x t ht h2 h1 (by omega) w
    have hv : vz x = -(valL t : Int):=by
      unfold vz intM intS sgn intM
      rw [hn,ht]
      by_cases h0 : valL t = 0
      · simp [h0]
      · simp [h0]
    rw [hv];exact this
  · rw [hn] at h1 h2 h4
    have:=refRead_p x x.data.toList rfl hh h2 h1 (by omega) w
    have hv : vz x = (valL x.data.toList : Int):=by
      unfold vz intM intS sgn intM
      rw [hn,show (x.data.toList.head? == some 45) = false by simpa using hh]
      rfl
    rw [hv];exact this
set_option maxHeartbeats 1000000 in
theorem refFirst_any (g n c : Nat) (xs : List Int) (hn : xs.length = n) (h63 : n <= 1000) (w : World) (hx : ∀ i (h : i < xs.length),w.cell? ⟨g,i,none⟩ = some (.int .i64 xs[i])) :
    Calls Tryz.prog 79 #[.slice (some ⟨g,0,none⟩) n c] w fun e w'=>e = .returned (.int .i64 (firstE xs))/\w' = w:=by
  have Hx:=Lib.hid hx;have Hn:=Lib.hid hn
  clear hx hn
  go_enter Tryz.func79,Tryz.ntmps79
  go_wp2
  go_loop [3] (fun i=>∃ k : Nat,i = .int .i64 k/\k <= n/\firstE (xs.drop k) = firstE xs) (fun i=>n - (intOf i).toNat)
  case atStart=>exact ⟨0,rfl,by omega,rfl⟩
  case round =>
    obtain ⟨k,rfl,hk,hf⟩:=hrel
    have Hf:=Lib.hid hf;clear hf
    by_cases h : k < n
    · have hkx : k < xs.length:=by have:=Hn.out;omega
      have hc:=Hx.out k hkx
      have hs:=firstE_drop xs k hkx
      rw [Hf.out] at hs
      obtain ⟨x,hxk⟩ : ∃ x,xs[k] = x:=⟨_,rfl⟩
      rw [hxk] at hc hs
      have d1 : decide ((k : Int) < (n : Int)) = true:=by simp;omega
      by_cases h0 : x = 0
      · rw [if_pos h0] at hs
        have d2 : (x != 0) = false:=by simp [h0]
        have Hs:=Lib.hid hs
        clear hs hxk
        have H0:=Lib.hid h0;clear h0
        go_wp2
        go_round
        case rel=>exact ⟨k + 1,by go_num,by omega,Hs.out.symm⟩
        case measure=>simp [intOf];omega
      · rw [if_neg h0] at hs
        have d2 : (x != 0) = true:=by simp [h0]
        have Hs:=Lib.hid hs
        clear hs hxk h0
        go_wp2
        go_ret
        exact ⟨by rw [Hs.out];rfl,rfl⟩
    · obtain rfl : k = n:=by omega
      have d1 : decide ((k : Int) < (k : Int)) = false:=by simp
      have hs:=Hf.out
      rw [List.drop_of_length_le (by have:=Hn.out;omega)] at hs
      have Hs:=Lib.hid hs;clear hs
      go_wp2
      go_ret
      exact ⟨by rw [<- Hs.out];rfl,rfl⟩
end
section
open Go.RowKit
open Qd (lims)
theorem pair_cells (w : World) (a b : Int) (t : TypeId) (i : Nat) (h : i < [a,b].length) : (w.alloc (.cells #[.int .i64 a,.int .i64 b] t)).cell? ⟨w.heap.size,i,none⟩ = some (.int .i64 [a,b][i]):=by
  match i,h with
  | 0,_=>simp
  | 1,_=>simp
end
section
open Go.RowKit
open Qd (lims)
theorem refSmall_any (n : Int) (h1 : -9223372036854775808 <= n) (h2 : n <= 9223372036854775807) (w : World) : Calls Tryz.prog 68 #[.int .i64 n] w fun e w'=>∃ v,e = .returned v/\BigAt w' v n/\Below w.heap.size w w':=by
  by_cases h : 0 <= n
  · have:=refSmall_pos n.natAbs (by omega) w
    rwa [show ((n.natAbs : Nat) : Int) = n by omega] at this
  · have:=refSmall_neg n.natAbs (by omega) (by omega) w
    rwa [show -((n.natAbs : Nat) : Int) = n by omega] at this
theorem lsz_i64 {n : Int} (h1 : -9223372036854775808 <= n) (h2 : n <= 9223372036854775807) : Qd.lsz n.natAbs <= 5:=by
  refine (Qd.lsz_le_iff 5 _).2 ?_
  have : Qd.bb ^ 5 = 100000000000000000000:=rfl
  omega
end
section
open Go.RowKit
open Qd (lims)
/-! a step of a long division -/
theorem rq_head (m _n i : Nat) : m / Qd.bb ^ i = m / Qd.bb ^ (i + 1) * Qd.bb + Qd.lim m i:=by
  unfold Qd.lim
  rw [Nat.pow_succ,<- Nat.div_div_eq_div_mul,Nat.mul_comm,Nat.div_add_mod]
theorem rq_eq (m n i : Nat) : m / Qd.bb ^ i = n * (m / Qd.bb ^ (i + 1) / n * Qd.bb) + (m / Qd.bb ^ (i + 1) % n * Qd.bb + Qd.lim m i):=by
  conv=>lhs;rw [rq_head m n i,<- Nat.div_add_mod (m / Qd.bb ^ (i + 1)) n]
  rw [Nat.add_mul,Nat.mul_assoc,Nat.add_assoc]
theorem rq_lt (m n i : Nat) (hn : 0 < n) : m / Qd.bb ^ (i + 1) % n * Qd.bb + Qd.lim m i < n * Qd.bb:=by
  have h1:=Nat.mod_lt (m / Qd.bb ^ (i + 1)) hn
  have h2:=Qd.lim_lt m i
  have : (m / Qd.bb ^ (i + 1) % n + 1) * Qd.bb <= n * Qd.bb:=Nat.mul_le_mul_right _ h1
  rw [Nat.add_mul] at this
  omega
theorem rq_mod (m n i : Nat) : (m / Qd.bb ^ (i + 1) % n * Qd.bb + Qd.lim m i) % n = m / Qd.bb ^ i % n:=by
  rw [rq_eq m n i,Nat.mul_add_mod]
theorem rq_div (m n i : Nat) (hn : 0 < n) : (m / Qd.bb ^ (i + 1) % n * Qd.bb + Qd.lim m i) / n = Qd.lim (m / n) i:=by
  have h3 : (m / Qd.bb ^ (i + 1) % n * Qd.bb + Qd.lim m i) / n < Qd.bb:=(Nat.div_lt_iff_lt_mul hn).2 (by rw [Nat.mul_comm Qd.bb n];exact rq_lt m n i hn)
  conv=>rhs;unfold Qd.lim
  rw [Nat.div_div_eq_div_mul,Nat.mul_comm n,<- Nat.div_div_eq_div_mul,rq_eq m n i,Nat.mul_add_div hn,Nat.mul_comm (m / Qd.bb ^ (i + 1) / n) Qd.bb,Nat.mul_add_mod,Nat.mod_eq_of_lt h3]
theorem lsz_step {R n : Nat} (h : R < n * Qd.bb) : Qd.lsz R <= Qd.lsz n + 1:=(Qd.lsz_le_iff _ _).2 (by
  rw [Nat.pow_succ]
  exact Nat.lt_of_lt_of_le h (Nat.mul_le_mul_right _ (Nat.le_of_lt (Qd.lsz_lt n))))
theorem cmpN_lt (a b : Nat) : decide (cmpN a b < 0) = decide (a < b):=by
  unfold cmpN
  by_cases h : a < b
  · rw [if_pos h,decide_eq_true h];rfl
  · rw [if_neg h,decide_eq_false h];split <;> rfl
theorem cmpN_le (a b : Nat) : decide (cmpN a b <= 0) = decide (a <= b):=by
  unfold cmpN
  by_cases h : a < b
  · rw [if_pos h,decide_eq_true (Nat.le_of_lt h)];rfl
  · by_cases h2 : b < a
    · rw [if_neg h,if_pos h2,show decide (a <= b) = false from decide_eq_false (by omega)];rfl
    · rw [if_neg h,if_neg h2,show decide (a <= b) = true from decide_eq_true (by omega)];rfl
theorem Mg.set_ne {w : World} {g k c : Nat} {l : List Nat} (h : Mg w (.slice (some ⟨g,0,none⟩) k c) l) {b : Nat} (hne : g ≠ b) (o : Nat) (u : Value) : Mg (w.setCell ⟨b,o,none⟩ u) (.slice (some ⟨g,0,none⟩) k c) l:=by
  obtain ⟨p,c',he,h0,h1⟩:=h
  injection he with e1 e2 e3
  refine ⟨p,c',by rw [<- e1,<- e2,<- e3],h0,fun hl=>?_⟩
  obtain ⟨g',hp,hg,hx⟩:=h1 hl
  rw [<- e1] at hp
  injection hp with hp
  injection hp with hp
  subst hp
  exact ⟨g,by rw [<- e1],by simpa using hg,fun i hi=>cell_set (hx i hi) hne⟩
theorem Ws.keep {X Y k N g : Nat} {w w' : World} (h : Ws X Y k N g w) (hb : Below w.heap.size w w') (hg : g < w.heap.size) : Ws X Y k N g w':=fun j hj=>by
  obtain ⟨h1,h2⟩:=h j hj
  exact ⟨(hb.cell (p:=⟨g,j,none⟩) hg).trans h1,(hb.frozen (p:=⟨g,j,none⟩) hg).trans h2⟩
theorem Ws.down {X Y k N g : Nat} {w : World} (h : Ws X Y (k + 1) N g w) {u : Int} (hu : u = (Qd.lim X k : Nat)) : Ws X Y k N g (w.setCell ⟨g,k,none⟩ (.int .i64 u)):=fun j hj=>by
  subst hu
  obtain ⟨h1,h2⟩:=h j hj
  by_cases he : j = k
  · subst he
    constructor
    · rw [World.cell?_setCell_same _ _ _ h1,if_neg (by omega)]
    · simpa using h2
  · constructor
    · rw [World.cell?_setCell_other _ _ _ _ (by intro hh;injection hh with a b;exact he b.symm)]
      rw [h1]
      congr 2
      by_cases h3 : j < k
      · rw [if_pos h3,if_pos (by omega)]
      · rw [if_neg h3,if_neg (by omega)]
    · simpa using h2
theorem built_row (W : World) (x : Int) : (W.alloc (.cells #[.int .i64 x] 3)).ownsRow W.heap.size 3 1 (.slice (some ⟨W.heap.size,0,none⟩) 1 1) 1 [.int .i64 x] :=
  ⟨by simp,.inr ⟨W.heap.size,1,#[.int .i64 x],rfl,Nat.le_refl _,heap_alloc_new W _,by omega,by unfold maxLen;omega,by simp,by simp⟩⟩
theorem run_app_nil (W : World) (x : Int) (c : Nat) : (Builtin.append_ #[72,72] 72 #[.slice (some ⟨W.heap.size,0,none⟩) 1 1,.slice none 0 c]).run Tryz.prog (W.alloc (.cells #[.int .i64 x] 3)) = .ok (.slice (some ⟨W.heap.size,0,none⟩) 1 1) (W.alloc (.cells #[.int .i64 x] 3)):=by
  obtain ⟨i0,hi,hz0,hz1,hz2⟩:=info_parts Tryz.info3
  simp [Builtin.append_,run_underlying Tryz.underlying72,sizeOf,typeInfo,hi,Builtin.lenOf,Builtin.firstCells,loadCells]
  rfl
set_option maxHeartbeats 1000000 in
theorem refTrim_at (b : Bool) (p : Option Addr) (c : Nat) (n k : Nat) (hk : k <= 100000) (hn : n < Qd.bb ^ k) (w : World) (hm : Mg w (.slice p k c) (lims n k)) :
    Calls Tryz.prog 144 #[.agg #[.bool b,.slice p k c]] w fun e w'=>e = .returned (.agg #[.bool (b && !decide (n = 0)),.slice p (Qd.lsz n) c])/\Mags w' (.slice p (Qd.lsz n) c) n/\Below w.heap.size w w':=by
  obtain ⟨p',c',he',h0,hc⟩:=hm.parts
  injection he' with e1 e2 e3
  subst e1;subst e3
  clear e2
  have Hn:=Lib.hid hn;have Hc:=Lib.hid hc;have Hm:=Lib.hid hm
  obtain ⟨z,hz0⟩ : ∃ z,decide (n = 0) = z:=⟨_,rfl⟩
  rw [hz0]
  have Hz0:=Lib.hid hz0
  clear hn hc hm hz0
  go_enter Tryz.func144,Tryz.ntmps144
  go_wp2
  go_loop [3] (fun i=>∃ j : Nat,i = .int .i64 j/\j <= k/\n < Qd.bb ^ j) (fun i=>(intOf i).toNat)
  case atStart=>exact ⟨k,rfl,Nat.le_refl _,Hn.out⟩
  case round =>
    obtain ⟨j,rfl,hj,hjn⟩:=hrel
    have Hj:=Lib.hid hjn;clear hjn
    have fin : ∀ W',Below w.heap.size w W'->∀ j,j = Qd.lsz n->j <= k->Mags W' (.slice p j c) n:=fun W' hb j e hjk=>by
      subst e
      exact (Hm.out.upTo' hjk).keep hb
    have Fin:=Lib.hid fin;clear fin
    by_cases h : j = 0
    · subst h
      have hn0 : n = 0:=by have:=Hj.out;simpa using this
      have hz:=Lib.hid (show 0 = Qd.lsz n from (Qd.lsz_eq_zero.2 hn0).symm)
      have hd : decide (n = 0) = true:=by simpa using hn0
      obtain rfl : z = true:=Hz0.out.symm.trans hd
      clear hn0 hd
      go_wp2
      refine ret74 Tryz.results144 _ rfl _ _ (by simp;rfl) (by simp;rfl) rfl ?_
      exact ⟨by rw [<- hz.out],by rw [<- hz.out];exact Fin.out _ (by repeat' first | exact Below.refl _ _ | assumption | refine Below.setCell ?_ ?_ _ | refine Below.alloc ?_ ?_ _ | refine below_drewN ?_ | refine Below.drew ?_ | (simp;done) | (simp;omega)) 0 hz.out (by omega),(by repeat' first | exact Below.refl _ _ | assumption | refine Below.setCell ?_ ?_ _ | refine Below.alloc ?_ ?_ _ | refine below_drewN ?_ | refine Below.drew ?_ | (simp;done) | (simp;omega))⟩
    · obtain ⟨g,rfl,hg,hx⟩:=Hc.out (by omega)
      have hcell:=hx (j - 1) (by omega)
      have d1 : decide ((0 : Int) < (j : Int)) = true:=by simp;omega
      by_cases h2 : Qd.lim n (j - 1) = 0
      · rw [h2] at hcell
        have hnew:=Lib.hid (Qd.lsz_down (j:=j - 1) (by rw [show j - 1 + 1 = j by omega];exact Hj.out) h2)
        clear hx h2
        go_wp2
        go_round
        case rel=>exact ⟨j - 1,by go_num,by omega,hnew.out⟩
        case measure=>simp [intOf];omega
      · have hz:=Lib.hid (show j = Qd.lsz n from by
          have h3:=(Qd.lsz_le_iff j n).2 Hj.out
          have h4:=Qd.lsz_stop h2
          omega)
        have hd : decide (n = 0) = false:=by
          simp only [decide_eq_false_iff_not];intro e;subst e;exact h2 (Qd.lim_zero _)
        obtain rfl : z = false:=Hz0.out.symm.trans hd
        clear hd
        obtain ⟨x,hx0⟩ : ∃ x,Qd.lim n (j - 1) = x:=⟨_,rfl⟩
        rw [hx0] at hcell h2
        have d2 : decide ((x : Int) = 0) = false:=by simp;omega
        have d3 : decide ((j : Int) = 0) = false:=by simp;omega
        clear hx hx0
        go_wp2
        refine ret74 Tryz.results144 _ rfl _ _ (by simp;rfl) (by simp;rfl) rfl ?_
        exact ⟨by rw [<- hz.out],by rw [<- hz.out];exact Fin.out _ (by repeat' first | exact Below.refl _ _ | assumption | refine Below.setCell ?_ ?_ _ | refine Below.alloc ?_ ?_ _ | refine below_drewN ?_ | refine Below.drew ?_ | (simp;done) | (simp;omega)) j hz.out hj,(by repeat' first | exact Below.refl _ _ | assumption | refine Below.setCell ?_ ?_ _ | refine Below.alloc ?_ ?_ _ | refine below_drewN ?_ | refine Below.drew ?_ | (simp;done) | (simp;omega))⟩
set_option maxRecDepth 100000 in
theorem wpList_app_rest {ops : Array Oper} {rest : List Oper} {o : Oper} {a : Act} {Q : Exit->Act->World->Prop} (hgd : o.guard = none) (s x : Operand)
    (ho : o.op = .call { callee:=.builtin .append,args:=#[s,x],argTypes:=#[72,72] }) (hty : o.type = 72) (W : World) (xv r k : Nat) (hb : xv < Qd.bb) (hk : k <= 20000) (sv v : Value)
    (hs : a.eval s = sv) (hx : a.eval x = v) (hsv : sv = .slice (some ⟨W.heap.size,0,none⟩) 1 1) (hm : Mg W v (lims r k))
    (h : ∀ g c w',Mg w' (.slice (some ⟨g,0,none⟩) (k + 1) c) (lims (r * Qd.bb + xv) (k + 1))->W.heap.size <= g->Below W.heap.size W w'->wpList Tryz.prog ops Q rest (a.put o.dst (.slice (some ⟨g,0,none⟩) (k + 1) c)) w') : wpList Tryz.prog ops Q (o :: rest) a (W.alloc (.cells #[.int .i64 xv] 3)):=by
  obtain ⟨i0,hi,hz0,hz1,hz2⟩:=info_parts Tryz.info3
  subst hsv
  obtain ⟨p,c,rfl,hc,hx2⟩:=hm.parts
  have hlow : Below W.heap.size W (W.alloc (.cells #[.int .i64 (xv : Int)] 3)):=(Below.refl _ W).alloc (Nat.le_refl _) _
  have hcons:=Qd.lims_cons r k xv hb
  cases p with
  | none =>
    have hk0 : k = 0:=Nat.eq_zero_of_not_pos fun hp=>by
      obtain ⟨g,hg,_⟩:=hx2 (by omega)
      cases hg
    subst hk0
    refine wpList_plain hgd fun K hK=>?_
    have hrun:=run_app_nil W xv c
    unfold Oper.wp execOp
    simp only [ho,hty,resolve,invoke,builtin,Sem.run_bind,Sem.run_pure,Result.andThen_ok,List.map_toArray,List.map_cons,List.map_nil,hs,hx,hrun]
    refine hK _ _ (h _ _ _ ?_ (Nat.le_refl _) hlow)
    have:=mg_of_row (l:=[xv]) (built_row W xv)
    rw [<- hcons]
    exact this
  | some ad =>
    have had : ∀ j u,(limV (lims r k))[j]? = some u->(W.alloc (.cells #[.int .i64 (xv : Int)] 3)).cell? (ad.add j) = some u:=by
      intro j u hu
      have hj : j < k:=by
        have:=(List.getElem?_eq_some_iff.1 hu).1
        simpa [limV,Qd.lims_length] using this
      obtain ⟨g,hg,hgs,hcell⟩:=hx2 (by omega)
      injection hg with hg
      subst hg
      rw [show (⟨g,0,none⟩ : Addr).add j = ⟨g,j,none⟩ by rw [Addr.add_lit,Nat.zero_add]]
      have h1:=hcell j hj
      have h2 : u = .int .i64 (Qd.lim r j : Nat):=by
        have h3:=(List.getElem?_eq_some_iff.1 hu).2
        rw [<- h3]
        simp [limV,Qd.lims]
      rw [h2]
      exact (hlow.cell (p:=⟨g,j,none⟩) hgs).trans h1
    refine wpList_append_own _ hgd s x 72 ho W.heap.size 3 i0 (.int .i64 0) 1 8 Tryz.underlying72 hi hz0 hz1 hz2 rfl (by decide) _ _ _ hs (built_row W xv) ad k c (limV (lims r k)) hx (by simp [limV,Qd.lims_length]) had (by simp [limV,Value.oneCell']) (by unfold maxLen;omega) (by omega) (by simp) ?_
    intro v' w' hown hgrow _
    have hl2 : limV [xv] ++ limV (lims r k) = limV (xv :: lims r k):=by simp [limV]
    have hown2 : w'.ownsRow W.heap.size 3 1 v' (k + 1) (limV (xv :: lims r k)):=by rw [<- hl2,Nat.add_comm];exact hown
    obtain ⟨g',c',rfl⟩:=ownsRow_succ hown2
    refine h g' c' w' ?_ (hown2.lt g' rfl).1 (hlow.grown hgrow (by simp) (fun j hj=>by cases hj;exact Nat.le_refl _))
    rw [<- hcons]
    exact mg_of_row hown2
end
end Go.Proofs.YtpbegoflpfdajaaGreatDoor
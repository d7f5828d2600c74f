/- WHAT IS PROVED: contracts of functions of the numbers package and laws for them, used by the last text of this claim. CONDITIONS: stated at each theorem. -/
import Derived.Test.YtpbegoflpfdajaaGreatDoorB36
import Derived.Test.YtpbegoflpfdajaaGreatDoorB15
namespace Go.Proofs.YtpbegoflpfdajaaGreatDoor
section
open Go.RowKit
open Qd (lims)
def Ws (X Y k N g : Nat) (w : World) : Prop:=∀ j,j < N->w.cell? ⟨g,j,none⟩ = some (.int .i64 ((if j < k then Qd.lim Y j else Qd.lim X j : Nat) : Int))/\w.frozen? ⟨g,j,none⟩ = false
theorem Ws.at {X Y k N g : Nat} {w : World} (h : Ws X Y k N g w) {j : Nat} (hj : j < N) (hk : k <= j) : w.cell? ⟨g,j,none⟩ = some (.int .i64 (Qd.lim X j : Nat)):=by
  have:=(h j hj).1
  rwa [if_neg (by omega)] at this
theorem Ws.drewN {X Y k N g n : Nat} {w : World} (h : Ws X Y k N g w) : Ws X Y k N g (w.drewN n):=h
theorem Ws.oth {X Y k N g b : Nat} {w w' : World} (h : Ws X Y k N g w) (ho : Oth b w w') (hb : g ≠ b) : Ws X Y k N g w':=fun j hj=>by
  rw [ho.cell (p:=⟨g,j,none⟩) hb,ho.frozen (p:=⟨g,j,none⟩) hb];exact h j hj
theorem Ws.put {X Y Z k N g : Nat} {w : World} (h : Ws X Y k N g w) (hk : k < N) {u : Int} (hu : u = (Qd.lim Z k : Nat)) (hz : ∀ j,j < k->Qd.lim Z j = Qd.lim Y j) : Ws X Z (k + 1) N g (w.setCell ⟨g,k,none⟩ (.int .i64 u)):=fun j hj=>by
  subst hu
  obtain ⟨h1,h2⟩:=h j hj
  by_cases he : j = k
  · subst he
    constructor
    · rw [World.cell?_setCell_same _ _ _ h1]
      rw [if_pos (by omega)]
    · simpa using h2
  · constructor
    · rw [World.cell?_setCell_other _ _ _ _ (by intro hh;injection hh with a b;exact he b.symm)]
      rw [h1]
      congr 2
      by_cases h3 : j < k
      · rw [if_pos h3,if_pos (by omega),hz j h3]
      · rw [if_neg h3,if_neg (by omega)]
    · simpa using h2
theorem Ws.same {X Y k N g X' Y' k' : Nat} {w : World} (h : Ws X Y k N g w) (he : ∀ j,j < N->(if j < k then Qd.lim Y j else Qd.lim X j) = (if j < k' then Qd.lim Y' j else Qd.lim X' j)) : Ws X' Y' k' N g w:=fun j hj=>by
  rw [<- he j hj];exact h j hj
theorem Ws.mg {X Y N g c : Nat} {w : World} (h : Ws X Y 0 N g w) (hg : g < w.heap.size) (hc : N <= c) : Mg w (.slice (some ⟨g,0,none⟩) N c) (lims X N):=by
  refine ⟨_,c,by rw [Qd.lims_length],by rw [Qd.lims_length];exact hc,fun _=>⟨g,rfl,hg,fun i hi=>?_⟩⟩
  rw [Qd.lims_get]
  rw [Qd.lims_length] at hi
  exact h.at hi (Nat.zero_le _)
/-! a slice that is made -/
theorem info3' : (Tryz.prog.info? 3).map (fun i=>(i.zero,i.size,i.bytes)) = some (some (.int .i64 0),1,8):=by kernel_rfl
theorem make72 (n : Nat) (hn : n <= 100000) (w : World) : (Instr.makeSlice 72 (.int .i64 n) (.int .i64 n)).run Tryz.prog w = .ok (.slice (some ⟨w.heap.size,0,none⟩) n n) (w.alloc (.cells (madeCells #[.int .i64 0] n) 3)) :=
  run_make_row' (P:=Tryz.prog) 72 3 (.int .i64 0) 8 Tryz.underlying72 info3' rfl .i64 .i64 n (by omega) (by omega) w
theorem mk72 {ops : Array Oper} {rest : List Oper} {op : Oper} {a : Act} {w : World} {Q : Exit->Act->World->Prop} (b n : Nat) (x : Int)
    (ho : op.guard = none/\∃ l c,op.op = .makeSlice 72 l c/\a.eval l = .int .i64 x/\a.eval c = .int .i64 x) (hx : x = (n : Nat)) (hb : b = w.heap.size) (hn : n <= 100000)
    (h : wpList Tryz.prog ops Q rest (a.put op.dst (.slice (some ⟨b,0,none⟩) n n)) (w.alloc (.cells (madeCells #[.int .i64 0] n) 3))) : wpList Tryz.prog ops Q (op :: rest) a w:=by
  obtain ⟨hg,l,c,hop,hl,hc⟩:=ho
  subst hb;subst hx
  refine wpList_plain hg fun K hK'=>?_
  have hrun:=make72 n hn w
  unfold Oper.wp
  simp [execOp,hop,hl,hc,hrun,Result.andThen]
  exact hK' _ _ h
theorem made72_get (n i : Nat) (h : i < n) : (madeCells #[.int .i64 0] n)[i]? = some (.int .i64 0):=by
  simp [madeCells,h,Nat.mod_one]
theorem made_ws (w : World) (N b : Nat) (hb : b = w.heap.size) : Ws 0 0 0 N b (w.alloc (.cells (madeCells #[.int .i64 0] N) 3)):=fun j hj=>by
  subst hb
  have:=made72_get N j hj
  constructor
  · rw [if_neg (by omega),Qd.lim_zero]
    simp [this]
  · simp
end
section
open Go.RowKit
open Qd (lims)
set_option maxHeartbeats 4000000 in
set_option maxRecDepth 100000 in
theorem refTimesM_any (b c : Bool) (s t : Value) (m n : Nat) (h1 : Qd.lsz m <= 10000) (h2 : Qd.lsz n <= 10000) (w : World) (hs : Mags w s m) (ht : Mags w t n) :
    Calls Tryz.prog 84 #[.agg #[.bool b,s],.agg #[.bool c,t]] w fun e w'=>∃ v,e = .returned (.agg #[.bool ((b != c) && !decide (m * n = 0)),v])/\Mags w' v (m * n)/\Below w.heap.size w w':=by
  have CL:=Lib.hid (fun k hk W (hb : Below w.heap.size w W)=>limb_same h2 ht k hk W hb)
  have CT:=Lib.hid (fun W v (hm : Mg W v (lims (m * n) (Qd.lsz m + Qd.lsz n + 1)))=>refTrim_any (!b == c) v (m * n) _ (by omega) (Qd.mul_lsz m n) W hm)
  obtain ⟨z,hz⟩ : ∃ z,((b != c) && !decide (m * n = 0)) = z:=⟨_,rfl⟩
  obtain ⟨p,c1,rfl,_,hx⟩:=hs.parts
  obtain ⟨q,d1,rfl,_,_⟩:=ht.parts
  have Hdone:=Lib.hid (fun i j=>Qd.prX_ends m n i j)
  have Hpos:=Lib.hid (fun i j=>Qd.prC_pos_le m n i j)
  have Hall:=Lib.hid (Qd.prQ_all m n)
  obtain ⟨a1,ha1⟩ : ∃ a,Qd.lsz m = a:=⟨_,rfl⟩
  obtain ⟨a2,ha2⟩ : ∃ a,Qd.lsz n = a:=⟨_,rfl⟩
  have hbc : (!b == c) = (b != c):=by cases b <;> cases c <;> rfl
  have hz2 : ((!b == c) && !decide (m * n = 0)) = z:=by rw [hbc];exact hz
  rw [hz2] at CT
  rw [hz]
  rw [ha1] at hx h1 Hall
  rw [ha2] at CL Hdone Hpos h2
  rw [ha1,ha2] at CT ⊢
  have Hx:=Lib.hid hx
  clear hs ht hz hz2 hbc ha1 ha2 hx
  obtain ⟨N,hN⟩ : ∃ N,a1 + a2 + 1 = N:=⟨_,rfl⟩
  rw [hN] at CT
  obtain ⟨⟨k00,k01⟩,⟨k10,k11⟩,⟨k20,k21⟩,kf0,kf1⟩:=cells3 w (.bool b) (.slice p a1 c1) (.bool c) (.slice q a2 d1) (.bool false) (.slice none 0 0) 74 74 74
  have hba : ∀ o,Below (((w.alloc (.cells #[.bool b,.slice p a1 c1] 74)).alloc (.cells #[.bool c,.slice q a2 d1] 74)).alloc (.cells #[.bool false,.slice none 0 0] 74)).heap.size (((w.alloc (.cells #[.bool b,.slice p a1 c1] 74)).alloc (.cells #[.bool c,.slice q a2 d1] 74)).alloc (.cells #[.bool false,.slice none 0 0] 74)) ((((w.alloc (.cells #[.bool b,.slice p a1 c1] 74)).alloc (.cells #[.bool c,.slice q a2 d1] 74)).alloc (.cells #[.bool false,.slice none 0 0] 74)).alloc o):=fun o=>(Below.refl _ _).alloc (Nat.le_refl _) o
  have hbo:=hba (.cells (madeCells #[.int .i64 0] N) 3)
  have j00:=cell_kept k00 hbo;have j01:=cell_kept k01 hbo;have j10:=cell_kept k10 hbo;have j11:=cell_kept k11 hbo;have j20:=cell_kept k20 hbo;have j21:=cell_kept k21 hbo
  have jf0:=frozen_kept kf0 hbo (by simp);have jf1:=frozen_kept kf1 hbo (by simp)
  have hws:=made_ws (((w.alloc (.cells #[.bool b,.slice p a1 c1] 74)).alloc (.cells #[.bool c,.slice q a2 d1] 74)).alloc (.cells #[.bool false,.slice none 0 0] 74)) N (w.heap.size + 1 + 1 + 1) (by simp)
  have hsz : ((((w.alloc (.cells #[.bool b,.slice p a1 c1] 74)).alloc (.cells #[.bool c,.slice q a2 d1] 74)).alloc (.cells #[.bool false,.slice none 0 0] 74)).alloc (.cells (madeCells #[.int .i64 0] N) 3)).heap.size = w.heap.size + 1 + 1 + 1 + 1:=by simp
  have hbw : Below w.heap.size w ((((w.alloc (.cells #[.bool b,.slice p a1 c1] 74)).alloc (.cells #[.bool c,.slice q a2 d1] 74)).alloc (.cells #[.bool false,.slice none 0 0] 74)).alloc (.cells (madeCells #[.int .i64 0] N) 3)):=(by repeat' first | exact Below.refl _ _ | assumption | refine Below.setCell ?_ ?_ _ | refine Below.alloc ?_ ?_ _ | refine below_drewN ?_ | refine Below.drew ?_ | (simp;done) | (simp;omega))
  have sN : (a1 : Int) + (a2 : Int) + 1 = (N : Int):=by omega
  clear k00 k01 k10 k11 k20 k21 kf0 kf1 hbo hba
  go_enter Tryz.func84,Tryz.ntmps84
  go_wp2_with (with_reducible refine mk72 (w.heap.size + 1 + 1 + 1) N _ ⟨rfl,_,_,rfl,rfl,rfl⟩ rfl (by simp) (by omega) ?_)
  generalize ((((w.alloc (Obj.cells #[.bool b,.slice p a1 c1] 74)).alloc (Obj.cells #[.bool c,.slice q a2 d1] 74)).alloc (Obj.cells #[.bool false,.slice none 0 0] 74)).alloc (Obj.cells (madeCells #[.int .i64 0] N) 3)) = W1 at *
  have Hws:=Lib.hid hws
  clear hws
  have fb : ∀ W,Oth (w.heap.size + 1 + 1 + 1) W1 W->W.cell? ⟨w.heap.size,1,none⟩ = some (.slice p a1 c1)/\W.cell? ⟨w.heap.size + 1,1,none⟩ = some (.slice q a2 d1):=fun W h=>⟨(h.cell (p:=⟨w.heap.size,1,none⟩) (by first | (simp;done) | (simp;omega))).trans j01,(h.cell (p:=⟨w.heap.size + 1,1,none⟩) (by first | (simp;done) | (simp;omega))).trans j11⟩
  have FB:=Lib.hid fb
  clear fb
  go_loopw [6] (fun i wr=>∃ k : Nat,k <= a1/\i = .int .i64 k/\Oth (w.heap.size + 1 + 1 + 1) W1 wr/\Ws (Qd.prQ m n k) 0 0 N (w.heap.size + 1 + 1 + 1) wr) (fun i _=>a1 - (intOf i).toNat)
  case atStart=>exact ⟨0,by omega,rfl,Oth.refl _ _,by rw [Qd.prQ_zero];exact Hws.out⟩
  case round =>
    obtain ⟨k,hk,rfl,ho,hw⟩:=hrel
    obtain ⟨fa,fb⟩:=FB.out wr ho
    have HO:=Lib.hid ho;have HW:=Lib.hid hw
    clear ho hw
    by_cases hlt : k < a1
    · obtain ⟨ga,rfl,_,hxs⟩:=Hx.out (by omega)
      have d1 : decide ((k : Int) < (a1 : Int)) = true:=by simp;omega
      go_wp2
      go_loopw [7,8] (fun vc vj w3=>∃ j : Nat,j <= a2 + 1/\vj = .int .i64 j/\vc = .int .i64 (Qd.prC m n k j : Nat)/\Oth (w.heap.size + 1 + 1 + 1) W1 w3/\Ws (Qd.prQ m n k) (Qd.prX m n k j) (k + j) N (w.heap.size + 1 + 1 + 1) w3) (fun _ vj _=>a2 + 1 - (intOf vj).toNat)
      case atStart=>exact ⟨0,by omega,rfl,by rw [Qd.prC_zero];rfl,HO.out,HW.out.same fun t ht=>by
        rw [if_neg (by omega)]
        by_cases h : t < k + 0
        · rw [if_pos h,Qd.prX_at0 _ _ _ _ (by omega)]
        · rw [if_neg h]⟩
      case round =>
        obtain ⟨j,hj,rfl,rfl,ho2,hw2⟩:=hrel
        have hpos:=Hpos.out k j
        have hdone:=Hdone.out k j
        by_cases hgo : j < a2 ∨ 0 < Qd.prC m n k j
        · have hj2 : j <= a2:=by omega
          clear hdone hpos
          have hjN : k + j < N:=by omega
          have hcx:=hw2.at hjN (Nat.le_refl _)
          have hfx:=(hw2 (k + j) hjN).2
          obtain ⟨fa,fb⟩:=FB.out wr ho2
          have hb3 : Below w.heap.size w wr:=hbw.trans (ho2.below (by omega))
          have hca:=cell_keep (hxs k hlt) hb3
          have cl:=CL.out j (by omega)
          have b1:=Qd.lim_lt' (Qd.prQ m n k) (k + j)
          have b2:=Qd.lim_lt' m k
          have b3:=Qd.lim_lt' n j
          have b4 : Qd.prC m n k j < 10000:=Qd.prC_lt m n k j
          have e1:=Qd.prX_lim m n k j
          have e2:=Qd.prC_succ m n k j
          rw [show Qd.bb = 10000 from rfl] at e1 e2
          have HW2:=Lib.hid hw2;have HO2:=Lib.hid ho2;have HB3:=Lib.hid hb3
          clear hw2 ho2 hb3
          obtain ⟨x1,hx1⟩ : ∃ x,Qd.lim (Qd.prQ m n k) (k + j) = x:=⟨_,rfl⟩
          obtain ⟨x2,hx2⟩ : ∃ x,Qd.lim m k = x:=⟨_,rfl⟩
          obtain ⟨x3,hx3⟩ : ∃ x,Qd.lim n j = x:=⟨_,rfl⟩
          obtain ⟨x4,hx4⟩ : ∃ x,Qd.prC m n k j = x:=⟨_,rfl⟩
          rw [hx1] at hcx b1 e1 e2
          rw [hx2] at hca b2 e1 e2
          rw [hx3] at cl b3 e1 e2
          rw [hx4] at b4 e1 e2 hgo
          rw [hx4]
          have E1:=Lib.hid e1;have E2:=Lib.hid e2;have CLJ:=Lib.hid cl
          clear e1 e2 cl hx1 hx2 hx3 hx4
          have b5 : x2 * x3 <= 99980001:=Nat.le_trans (Nat.mul_le_mul (show x2 <= 9999 by omega) (show x3 <= 9999 by omega)) (by omega)
          have b6 : (x2 : Int) * (x3 : Int) <= 99980001:=by
            have : ((x2 * x3 : Nat) : Int) <= 99980001:=by omega
            simpa using this
          have b7 : 0 <= (x2 : Int) * (x3 : Int):=Int.mul_nonneg (by omega) (by omega)
          obtain ⟨kj,hkj⟩ : ∃ x,k + j = x:=⟨_,rfl⟩
          have s1 : (k : Int) + (j : Int) = (kj : Int):=by omega
          rw [hkj] at hcx hfx E1 HW2 hjN
          have HKJ:=Lib.hid hkj;clear hkj
          by_cases hja : j < a2
          · have d2 : decide ((j : Int) < (a2 : Int)) = true:=by simp;omega
            go_wp2_with fail
            go_quiet ((go_at_call 152;exact Calls.quiet_of_same (CLJ.out _ (below_drewN HB3.out))))
            go_wp2
            go_roundw
            case rel =>
              have hv : ((x1 : Int) + (x2 : Int) * (x3 : Int) + (x4 : Int)) % 10000 = (Qd.lim (Qd.prX m n k (j + 1)) kj : Nat):=by rw [E1.out];simp
              refine ⟨j + 1,by omega,by go_num,int_v (by rw [E2.out];simp),HO2.out.drewN.set _ _,?_⟩
              rw [show k + (j + 1) = kj + 1 by have:=HKJ.out;omega]
              exact HW2.out.drewN.put hjN hv (fun t ht=>Qd.prX_low m n k j t (by have:=HKJ.out;omega))
            case measure=>simp only [intOf];omega
          · have d2 : decide ((j : Int) < (a2 : Int)) = false:=by simp;omega
            have d3 : decide ((0 : Int) < (x4 : Int)) = true:=by simp;omega
            go_wp2_with fail
            go_quiet ((go_at_call 152;exact Calls.quiet_of_same (CLJ.out _ (below_drewN HB3.out))))
            go_wp2
            go_roundw
            case rel =>
              have hv : ((x1 : Int) + (x2 : Int) * (x3 : Int) + (x4 : Int)) % 10000 = (Qd.lim (Qd.prX m n k (j + 1)) kj : Nat):=by rw [E1.out];simp
              refine ⟨j + 1,by omega,by go_num,int_v (by rw [E2.out];simp),HO2.out.drewN.set _ _,?_⟩
              rw [show k + (j + 1) = kj + 1 by have:=HKJ.out;omega]
              exact HW2.out.drewN.put hjN hv (fun t ht=>Qd.prX_low m n k j t (by have:=HKJ.out;omega))
            case measure=>simp only [intOf];omega
        · have d2 : decide ((j : Int) < (a2 : Int)) = false:=by simp;omega
          have d3 : decide ((0 : Int) < (Qd.prC m n k j : Nat)) = false:=by simp;omega
          have he:=fun t=>hdone (by omega) (by omega) t
          have hw4 : Ws (Qd.prQ m n (k + 1)) 0 0 N (w.heap.size + 1 + 1 + 1) wr:=hw2.same fun t ht=>by
            rw [he t,if_neg (by omega)]
          obtain ⟨fa,fb⟩:=FB.out wr ho2
          have HW4:=Lib.hid hw4;have HO4:=Lib.hid ho2
          clear hw4 ho2 hw2 he hdone hpos
          obtain ⟨x4,hx4⟩ : ∃ x,Qd.prC m n k j = x:=⟨_,rfl⟩
          rw [hx4] at d3 hgo ⊢
          clear hx4
          go_wp2
          go_roundw
          case rel=>exact ⟨k + 1,by omega,by go_num,HO4.out,HW4.out⟩
          case measure=>simp only [intOf];omega
    · have hka : k = a1:=by omega
      subst hka
      have d1 : decide ((k : Int) < (k : Int)) = false:=by simp
      have hw5:=HW.out
      rw [Hall.out] at hw5
      have hbwr : Below w.heap.size w wr:=hbw.trans (HO.out.below (by omega))
      have hmg:=hw5.mg (c:=N) (by rw [HO.out.size,hsz];omega) (Nat.le_refl _)
      obtain ⟨i00,i10⟩ : wr.cell? ⟨w.heap.size,0,none⟩ = some (.bool b)/\wr.cell? ⟨w.heap.size + 1,0,none⟩ = some (.bool c):=⟨(HO.out.cell (p:=⟨w.heap.size,0,none⟩) (by first | (simp;done) | (simp;omega))).trans j00,(HO.out.cell (p:=⟨w.heap.size + 1,0,none⟩) (by first | (simp;done) | (simp;omega))).trans j10⟩
      have i20:=(HO.out.cell (p:=⟨w.heap.size + 1 + 1,0,none⟩) (by first | (simp;done) | (simp;omega))).trans j20
      have i21:=(HO.out.cell (p:=⟨w.heap.size + 1 + 1,1,none⟩) (by first | (simp;done) | (simp;omega))).trans j21
      have if0:=(HO.out.frozen (p:=⟨w.heap.size + 1 + 1,0,none⟩) (by first | (simp;done) | (simp;omega))).trans jf0
      have if1:=(HO.out.frozen (p:=⟨w.heap.size + 1 + 1,1,none⟩) (by first | (simp;done) | (simp;omega))).trans jf1
      have hszr : wr.heap.size = w.heap.size + 1 + 1 + 1 + 1:=HO.out.size.trans hsz
      have CTr:=Lib.hid (CT.out wr _ hmg)
      clear hw5 hmg
      go_wp2_with (go_at_call 144;(with_reducible refine (CTr.out).mono ?_);rintro e w2 ⟨v,rfl,hm2,hb2⟩;obtain ⟨p3,c3,rfl,_,_⟩:=hm2.parts;have l0:=cell_kept i20 hb2;have l1:=cell_kept i21 hb2;have lf0:=frozen_kept if0 hb2 (by first | (simp;done) | (simp;omega));have lf1:=frozen_kept if1 hb2 (by first | (simp;done) | (simp;omega));have HM2:=Lib.hid hm2;have HB2:=Lib.hid (hbwr.trans (hb2.mono hbwr.size));clear hm2 hb2)
      refine ret74 Tryz.results84 _ rfl (.bool z) (.slice p3 (Qd.lsz (m * n)) c3) (by go_simp) (by go_simp) rfl ?_
      exact ⟨_,rfl,Mg.set2 HM2.out l0 _ _,by have hlw:=HB2.out;exact (by repeat' first | exact Below.refl _ _ | assumption | refine Below.setCell ?_ ?_ _ | refine Below.alloc ?_ ?_ _ | refine below_drewN ?_ | refine Below.drew ?_ | (simp;done) | (simp;omega))⟩
end
section
open Go.RowKit
open Qd (lims)
theorem mul_sign (z1 z2 : Int) : ((decide (z1 < 0) != decide (z2 < 0)) && !decide (z1.natAbs * z2.natAbs = 0)) = decide (z1 * z2 < 0):=by
  obtain ⟨P,hP⟩ : ∃ P,z1.natAbs * z2.natAbs = P:=⟨_,rfl⟩
  rw [hP]
  have h0 : P = 0 ↔ z1 = 0 ∨ z2 = 0:=by rw [<- hP,Nat.mul_eq_zero];omega
  have hp : ∀ a b : Nat,a * b = P->(a : Int) * (b : Int) = (P : Int):=fun a b h=>by rw [<- h];simp
  by_cases h1 : z1 < 0 <;> by_cases h2 : z2 < 0
  · have e : z1 * z2 = (P : Int):=by
      rw [<- hp _ _ hP,show z1 = -(z1.natAbs : Int) by omega,show z2 = -(z2.natAbs : Int) by omega,Int.neg_mul_neg]
      simp
    rw [e,decide_eq_true h1,decide_eq_true h2,decide_eq_false (show ¬ ((P : Int) < 0) by omega)]
    rfl
  · have e : z1 * z2 = -(P : Int):=by
      rw [<- hp _ _ hP,show z1 = -(z1.natAbs : Int) by omega,show z2 = (z2.natAbs : Int) by omega,Int.neg_mul]
      simp
    rw [e,decide_eq_true h1,decide_eq_false h2]
    by_cases hz : P = 0
    · subst hz;simp
    · rw [decide_eq_false hz,decide_eq_true (show -(P : Int) < 0 by omega)];rfl
  · have e : z1 * z2 = -(P : Int):=by
      rw [<- hp _ _ hP,show z1 = (z1.natAbs : Int) by omega,show z2 = -(z2.natAbs : Int) by omega,Int.mul_neg]
      simp
    rw [e,decide_eq_false h1,decide_eq_true h2]
    by_cases hz : P = 0
    · subst hz;simp
    · rw [decide_eq_false hz,decide_eq_true (show -(P : Int) < 0 by omega)];rfl
  · have e : z1 * z2 = (P : Int):=by
      rw [<- hp _ _ hP,show z1 = (z1.natAbs : Int) by omega,show z2 = (z2.natAbs : Int) by omega]
      simp
    rw [e,decide_eq_false h1,decide_eq_false h2,decide_eq_false (show ¬ ((P : Int) < 0) by omega)]
    rfl
theorem refTimes_any (x y : Value) (z1 z2 : Int) (h1 : Qd.lsz z1.natAbs <= 10000) (h2 : Qd.lsz z2.natAbs <= 10000) (w : World) (hx : BigAt w x z1) (hy : BigAt w y z2) :
    Calls Tryz.prog 84 #[x,y] w fun e w'=>∃ v,e = .returned v/\BigAt w' v (z1 * z2)/\Below w.heap.size w w':=by
  obtain ⟨s,rfl,hs⟩:=hx
  obtain ⟨t,rfl,ht⟩:=hy
  refine (refTimesM_any _ _ s t _ _ h1 h2 w hs ht).mono ?_
  rintro e w' ⟨v,rfl,hm,hb⟩
  exact ⟨_,rfl,⟨v,by rw [mul_sign],by rw [Int.natAbs_mul];exact hm⟩,hb⟩
theorem lsz_digit (d : Nat) (h0 : 0 < d) (hd : d < 10000) : Qd.lsz d = 1:=Qd.lsz_is (k:=1) (by rw [Nat.pow_one];exact hd) (Or.inr (by rw [show 1 - 1 = 0 from rfl,Nat.pow_zero];exact h0))
theorem mags_digit (w : World) (d : Nat) (h0 : 0 < d) (hd : d < 10000) : Mags (w.alloc (.cells #[.int .i64 (d : Int)] 3)) (.slice (some ⟨w.heap.size,0,none⟩) 1 1) d:=by
  unfold Mags
  rw [lsz_digit d h0 hd]
  refine ⟨_,1,by rw [Qd.lims_length],by rw [Qd.lims_length];omega,fun _=>⟨w.heap.size,rfl,by simp,fun i hi=>?_⟩⟩
  rw [Qd.lims_get]
  rw [Qd.lims_length] at hi
  obtain rfl : i = 0:=by omega
  rw [Qd.lim_small hd]
  simp
set_option maxHeartbeats 1000000 in
set_option maxRecDepth 100000 in
theorem refByLimb_any (s : Value) (m d : Nat) (h1 : Qd.lsz m <= 10000) (h0 : 0 < d) (hd : d < 10000) (w : World) (hs : Mags w s m) :
    Calls Tryz.prog 199 #[s,.int .i64 d] w fun e w'=>∃ v,e = .returned v/\Mags w' v (m * d)/\Below w.heap.size w w':=by
  have C:=Lib.hid (fun W (hb : Below w.heap.size w W) t (ht : Mags W t d)=>refTimesM_any false false s t m d h1 (by rw [lsz_digit d h0 hd];omega) W (hs.keep hb) ht)
  have hmd:=Lib.hid (mags_digit w d h0 hd)
  obtain ⟨p,c,rfl,_,_⟩:=hs.parts
  obtain ⟨k,hk⟩ : ∃ k,Qd.lsz m = k:=⟨_,rfl⟩
  rw [hk] at C ⊢
  clear hs hk h1
  go_enter Tryz.func199,Tryz.ntmps199
  go_wp2_with (first
    | (with_reducible refine fd74 _ _ _ _ ⟨rfl,_,rfl,rfl⟩ ?_)
    | (go_at_call 84;(with_reducible refine (C.out _ (by repeat' first | exact Below.refl _ _ | assumption | refine Below.setCell ?_ ?_ _ | refine Below.alloc ?_ ?_ _ | refine below_drewN ?_ | refine Below.drew ?_ | (simp;done) | (simp;omega)) _ hmd.out).mono ?_);rintro e w2 ⟨v,rfl,hm,hb⟩;obtain ⟨p2,c2,rfl,_,_⟩:=hm.parts;have HM:=Lib.hid hm;have HB:=Lib.hid (Below.trans (a:=w) (B:=w.heap.size) (by repeat' first | exact Below.refl _ _ | assumption | refine Below.setCell ?_ ?_ _ | refine Below.alloc ?_ ?_ _ | refine below_drewN ?_ | refine Below.drew ?_ | (simp;done) | (simp;omega)) (Below.mono hb (Below.size (B:=w.heap.size) (w:=w) (by repeat' first | exact Below.refl _ _ | assumption | refine Below.setCell ?_ ?_ _ | refine Below.alloc ?_ ?_ _ | refine below_drewN ?_ | refine Below.drew ?_ | (simp;done) | (simp;omega)))));clear hm hb))
  go_ret
  exact ⟨_,rfl,HM.out,HB.out⟩
end
end Go.Proofs.YtpbegoflpfdajaaGreatDoor
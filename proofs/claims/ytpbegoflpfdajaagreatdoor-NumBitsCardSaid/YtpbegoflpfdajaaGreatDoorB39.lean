/- WHAT IS PROVED: contracts of functions of the numbers package and laws for them, used by the last text of this claim. CONDITIONS: stated at each theorem. -/
import Derived.Test.YtpbegoflpfdajaaGreatDoorB11
import Derived.Test.YtpbegoflpfdajaaGreatDoorB38
import Derived.Test.YtpbegoflpfdajaaGreatDoorB33
namespace Go.Proofs.YtpbegoflpfdajaaGreatDoor
section
open Go.RowKit
open Qd (lims)
open Go.Lib (decDigits nDigits decDigits_length byteCells)
def dg (V j : Nat) : UInt8:=UInt8.ofNat (48 + V / 10 ^ j % 10)
theorem dg_nat (V j : Nat) : (dg V j).toNat = 48 + V / 10 ^ j % 10:=by
  unfold dg
  simp;omega
def dgs (V k : Nat) : List UInt8:=(List.range k).map (dg V)
theorem dgs_length (V k : Nat) : (dgs V k).length = k:=by simp [dgs]
theorem dgs_succ (V k : Nat) : dgs V (k + 1) = dgs V k ++ [dg V k]:=by simp [dgs,List.range_succ]
theorem dgs_get (V k j : Nat) (h : j < (dgs V k).length) : (dgs V k)[j] = dg V j:=by simp [dgs]
theorem dg_up (V j : Nat) : dg V (j + 1) = dg (V / 10) j:=by
  unfold dg
  rw [Nat.pow_succ,Nat.mul_comm,<- Nat.div_div_eq_div_mul]
theorem dgs_cons (V k : Nat) : dgs V (k + 1) = dg V 0 :: dgs (V / 10) k:=by
  unfold dgs
  rw [List.range_succ_eq_map,List.map_cons,List.map_map]
  congr 1
  apply List.map_congr_left
  intro j _
  exact dg_up V j
theorem dec_rev : ∀ (f V : Nat),V <= f->decDigits V = (dgs V (nDigits V)).reverse
  | 0,V,h=>by
    obtain rfl : V = 0:=by omega
    rw [nD_one 0 (by omega),Lib.decDigits_one (by omega)]
    simp [dgs,dg]
  | f + 1,V,h=>by
    by_cases h10 : V < 10
    · rw [nD_one V h10,Lib.decDigits_one h10]
      simp [dgs,dg,Nat.mod_eq_of_lt h10]
    · rw [dec_step V h10,nD_step V h10,dgs_cons,List.reverse_cons,dec_rev f (V / 10) (by omega)]
      congr 1
      simp [dg]
theorem dec_dgs (V : Nat) : decDigits V = (dgs V (nDigits V)).reverse:=dec_rev V V (Nat.le_refl _)
theorem nD_is {V n : Nat} (h1 : V < 10 ^ n) (h0 : 0 < n) (h2 : V / 10 ^ (n - 1) % 10 ≠ 0) : nDigits V = n:=by
  obtain ⟨k,rfl⟩ : ∃ k,n = k + 1:=⟨n - 1,by omega⟩
  apply Nat.le_antisymm (nD_le k V h1)
  apply Nat.lt_of_not_le;intro h
  have:=nD_lt k V (by omega)
  rw [Nat.add_sub_cancel,Nat.div_eq_of_lt this] at h2
  exact h2 rfl
theorem dg_lim (V i k : Nat) (hk : k < 4) : Qd.lim V i / 10 ^ k % 10 = V / 10 ^ (4 * i + k) % 10:=by
  unfold Qd.lim
  rw [bb_ten4,Nat.pow_add,<- Nat.div_div_eq_div_mul]
  generalize V / 10 ^ (4 * i) = x
  show x % 10000 / 10 ^ k % 10 = x / 10 ^ k % 10
  obtain rfl | rfl | rfl | rfl : k = 0 ∨ k = 1 ∨ k = 2 ∨ k = 3:=by omega
  all_goals simp only [Nat.pow_zero,Nat.pow_one,show (10 : Nat) ^ 2 = 100 from rfl,show (10 : Nat) ^ 3 = 1000 from rfl]
  all_goals omega
theorem rev_take_succ (V n r : Nat) (h : r < n) : (dgs V n).reverse.take (r + 1) = (dgs V n).reverse.take r ++ [dg V (n - 1 - r)]:=by
  rw [List.take_succ_eq_append_getElem (by simp [dgs_length];exact h)]
  congr 2
  rw [List.getElem_reverse,dgs_get]
  congr 1
  simp [dgs_length]
end
section
open Go.RowKit
open Qd (lims)
open Go.Lib (decDigits nDigits decDigits_length byteCells)
theorem refWrite_zero (b : Bool) (s : Value) (w : World) (hs : Mags w s 0) : Calls Tryz.prog 67 #[.agg #[.bool b,s]] w fun e w'=>e = .returned (.string ⟨#[48]⟩)/\Below w.heap.size w w':=by
  obtain ⟨p,c,rfl,_,_⟩:=hs.parts
  rw [Qd.lsz_zero]
  clear hs
  go_enter Tryz.func67,Tryz.ntmps67
  go_wp2
  go_ret
  exact ⟨rfl,(by repeat' first | exact Below.refl _ _ | assumption | refine Below.setCell ?_ ?_ _ | refine Below.alloc ?_ ?_ _ | refine below_drewN ?_ | refine Below.drew ?_ | (simp;done) | (simp;omega))⟩
theorem byteCells_get (l : List UInt8) (i : Nat) (h : i < l.length) : (byteCells l)[i]? = some (.int .u8 (l[i].toNat : Int)):=by simp [byteCells,h]
theorem row_cell {W : World} {base g k cap : Nat} {l : List UInt8} (h : W.ownsRow base 5 1 (.slice (some ⟨g,0,none⟩) k cap) k (byteCells l)) (i : Nat) (hi : i < l.length) : W.cell? ⟨g,i,none⟩ = some (.int .u8 (l[i].toNat : Int)):=by
  have:=h.cells (g:=g) rfl i _ (byteCells_get l i hi)
  rwa [Addr.add_lit,Nat.zero_add] at this
set_option maxHeartbeats 4000000 in
set_option maxRecDepth 100000 in
theorem refWrite_pos (s : Value) (V : Nat) (hV : V ≠ 0) (hz : Qd.lsz V <= 10000) (w : World) (hs : Mags w s V) : Calls Tryz.prog 67 #[.agg #[.bool false,s]] w fun e w'=>e = .returned (.string ⟨(sgText V false).toArray⟩)/\Below w.heap.size w w':=by
  obtain ⟨i0,hi,hz0,hz1,hz2⟩:=info_parts Tryz.info5
  obtain ⟨p,c,rfl,_,hx⟩:=hs.parts
  have hlt:=Qd.lsz_lt V
  have hzp : 0 < Qd.lsz V:=Nat.pos_of_ne_zero (fun e=>hV (Qd.lsz_eq_zero.1 e))
  obtain ⟨a,ha⟩ : ∃ a,Qd.lsz V = a:=⟨_,rfl⟩
  rw [ha] at hx hlt hz hzp ⊢
  obtain ⟨ga,rfl,hga,hxs⟩:=hx (by omega)
  rw [bb_ten4] at hlt
  have Hlt:=Lib.hid hlt;have HV:=Lib.hid hV;have Hxs:=Lib.hid hxs
  obtain ⟨T,hT⟩ : ∃ T : ByteArray,⟨(sgText V false).toArray⟩ = T:=⟨_,rfl⟩
  rw [hT]
  have HT:=Lib.hid hT
  have kb0 : (w.alloc (.cells #[.bool false,.slice (some ⟨ga,0,none⟩) a c] 74)).cell? ⟨w.heap.size,0,none⟩ = some (.bool false):=by go_simp
  have kb1 : (w.alloc (.cells #[.bool false,.slice (some ⟨ga,0,none⟩) a c] 74)).cell? ⟨w.heap.size,1,none⟩ = some (.slice (some ⟨ga,0,none⟩) a c):=by go_simp
  have hb0 : Below w.heap.size w (w.alloc (.cells #[.bool false,.slice (some ⟨ga,0,none⟩) a c] 74)):=(by repeat' first | exact Below.refl _ _ | assumption | refine Below.setCell ?_ ?_ _ | refine Below.alloc ?_ ?_ _ | refine below_drewN ?_ | refine Below.drew ?_ | (simp;done) | (simp;omega))
  have hs0 : (w.alloc (.cells #[.bool false,.slice (some ⟨ga,0,none⟩) a c] 74)).heap.size = w.heap.size + 1:=by simp
  have da : ((a : Int) == 0) = false:=by simp;omega
  clear hs hx hlt ha hV hxs hT
  go_enter Tryz.func67,Tryz.ntmps67
  go_wp2
  generalize w.alloc (Obj.cells #[.bool false,.slice (some ⟨ga,0,none⟩) a c] 74) = W0 at *
  go_loopw [3,4] (fun v vi wr=>∃ i : Nat,i <= a/\vi = .int .i64 i/\wr.ownsRow (w.heap.size + 1) 5 1 v (4 * i) (byteCells (dgs V (4 * i)))/\Below (w.heap.size + 1) W0 wr) (fun _ vi _=>a - (intOf vi).toNat)
  case atStart=>exact ⟨0,by omega,rfl,World.ownsRow_nil _ _ _ _,Below.refl _ _⟩
  case round =>
    obtain ⟨i,hia,rfl,hrow,hbl⟩:=hrel
    have c0:=(hbl.cell (p:=⟨w.heap.size,0,none⟩) (by simp)).trans kb0
    have c1:=(hbl.cell (p:=⟨w.heap.size,1,none⟩) (by simp)).trans kb1
    have hbw : Below w.heap.size w wr:=hb0.trans (hbl.mono (by omega))
    have hszr : w.heap.size + 1 <= wr.heap.size:=by have:=hbl.size;omega
    have HBL:=Lib.hid hbl;have HBW:=Lib.hid hbw
    clear hbl hbw
    by_cases hlt : i < a
    · have cx:=cell_keep (Hxs.out i hlt) HBW.out
      have hxl:=Qd.lim_lt' V i
      have hdl:=Lib.hid (fun k hk=>dg_lim V i k hk)
      obtain ⟨x,hx0⟩ : ∃ x,Qd.lim V i = x:=⟨_,rfl⟩
      rw [hx0] at cx hxl hdl
      have d1 : decide ((i : Int) < (a : Int)) = true:=by simp;omega
      have HROW:=Lib.hid hrow
      clear hx0 hrow
      go_wp2
      go_loopw [3,5,6] (fun v vl vk w2=>∃ k : Nat,k <= 4/\vk = .int .i64 k/\vl = .int .i64 (x / 10 ^ k : Nat)/\w2.ownsRow (w.heap.size + 1) 5 1 v (4 * i + k) (byteCells (dgs V (4 * i + k)))/\Below (w.heap.size + 1) W0 w2) (fun _ _ vk _=>4 - (intOf vk).toNat)
      case atStart=>exact ⟨0,by omega,rfl,by simp,HROW.out,HBL.out⟩
      case round =>
        obtain ⟨k,hk4,rfl,rfl,hrow,hbl⟩:=hrel
        have hszr : w.heap.size + 1 <= wr.heap.size:=by have:=hbl.size;omega
        by_cases hk : k < 4
        · have hd:=hdl.out k hk
          have hdn:=dg_nat V (4 * i + k)
          rw [<- hd] at hdn
          have hup : x / 10 ^ (k + 1) = x / 10 ^ k / 10:=by rw [Nat.pow_succ,Nat.div_div_eq_div_mul]
          obtain ⟨y,hy⟩ : ∃ y,x / 10 ^ k = y:=⟨_,rfl⟩
          have hyx : y <= x:=by rw [<- hy];exact Nat.div_le_self _ _
          rw [hy] at hdn hup ⊢
          have hs1:=dgs_succ V (4 * i + k)
          have Hrow:=Lib.hid hrow;have HB2:=Lib.hid hbl
          have Hdn:=Lib.hid hdn;have Hup:=Lib.hid hup;have Hs1:=Lib.hid hs1
          clear hd hdn hup hy hs1 hrow hbl
          have d2 : decide ((k : Int) < 4) = true:=by simp;omega
          go_wp2_with (at_builtin;refine wpList_append_own _ rfl _ _ 152 rfl (w.heap.size + 1) 5 i0 (.int .u8 0) 1 1 Tryz.underlying152 hi hz0 hz1 hz2 rfl (by decide) _ _ _ rfl (Hrow.out.alloc _) ⟨wr.heap.size,0,none⟩ 1 1 [.int .u8 (48 + (y : Int) % 10)] rfl rfl (one_new1 wr _ _) (by simp [Value.oneCell']) (by unfold maxLen;omega) (by omega) (by simp;omega) ?_;intro v' w3 hown' hgrow _;obtain ⟨g',cap',rfl⟩:=ownsRow_succ hown';have HN:=Lib.hid (And.intro hown' hgrow);clear hown' hgrow)
          have hbig : Below (w.heap.size + 1) W0 w3:=(HB2.out.alloc (by omega) _).grown HN.out.2 (by simp;omega) (fun j hj=>(Hrow.out.lt j hj).1)
          have hnew : w3.ownsRow (w.heap.size + 1) 5 1 (.slice (some ⟨g',0,none⟩) (4 * i + k + 1) cap') (4 * i + (k + 1)) (byteCells (dgs V (4 * i + (k + 1)))):=by
            rw [show 4 * i + (k + 1) = (4 * i + k) + 1 by omega,Hs1.out,byteCells_snoc]
            have e : ((dg V (4 * i + k)).toNat : Int) = 48 + (y : Int) % 10:=by rw [Hdn.out];omega
            rw [e];exact HN.out.1
          have Hnew:=Lib.hid hnew;have Hbig:=Lib.hid hbig
          clear hnew hbig
          go_roundw
          case rel=>exact ⟨k + 1,by omega,by go_num,by rw [Hup.out];rfl,Hnew.out,Hbig.out⟩
          case measure=>simp [intOf];omega
        · have hk2 : k = 4:=by omega
          subst hk2
          have HROW2:=Lib.hid hrow;have HB2:=Lib.hid hbl
          clear hrow hbl
          go_wp2
          go_roundw
          case rel=>exact ⟨i + 1,by omega,by go_num,HROW2.out,HB2.out⟩
          case measure=>simp [intOf];omega
    · have hia2 : i = a:=by omega
      subst hia2
      have d1 : decide ((i : Int) < (i : Int)) = false:=by simp
      obtain ⟨m,hm⟩ : ∃ m,4 * i = m:=⟨_,rfl⟩
      have hm0 : 0 < m:=by omega
      have hm4 : m <= 40000:=by omega
      have hlt4:=Hlt.out
      rw [hm] at hrow hlt4
      obtain ⟨q,hq⟩ : ∃ q,m = q + 1:=⟨m - 1,by omega⟩
      have hrow2:=hrow
      rw [hq] at hrow2
      obtain ⟨gd,capd,rfl⟩:=ownsRow_succ hrow2
      rw [<- hq] at hrow2
      have hgd:=(hrow2.lt gd rfl).2
      have hcd : ∀ j,j < m->wr.cell? ⟨gd,j,none⟩ = some (.int .u8 ((dg V j).toNat : Int)):=fun j hj=>by
        have:=row_cell hrow2 j (by rw [dgs_length];exact hj)
        rwa [dgs_get] at this
      have HCD:=Lib.hid hcd
      have Hlt4:=Lib.hid hlt4
      clear hrow hrow2 hcd hlt4
      rw [<- hq]
      clear hq q hm Hxs Hlt
      go_wp2
      go_loopw [7] (fun vn w2=>∃ j : Nat,0 < j/\j <= m/\vn = .int .i64 j/\V < 10 ^ j/\w2 = wr) (fun vn _=>(intOf vn).toNat)
      case atStart=>exact ⟨m,hm0,Nat.le_refl _,by first | rfl | go_num,Hlt4.out,rfl⟩
      case round =>
        obtain ⟨j,hj0,hjm,rfl,hVj,rfl⟩:=hrel
        have hcj:=HCD.out (j - 1) (by omega)
        have hdj:=dg_nat V (j - 1)
        have hz0' : V / 10 ^ (j - 1) % 10 = 0->0 < j - 1/\V < 10 ^ (j - 1):=by
          intro h
          have h10 : V < 10 ^ (j - 1) * 10:=by rw [<- Nat.pow_succ];show V < 10 ^ (j - 1 + 1);rw [show j - 1 + 1 = j by omega];exact hVj
          have hq : V / 10 ^ (j - 1) < 10:=(Nat.div_lt_iff_lt_mul (Nat.pow_pos (by omega))).2 (by rw [Nat.mul_comm];exact h10)
          have hlt : V < 10 ^ (j - 1):=by
            apply Nat.lt_of_not_le;intro hl
            have:=Nat.div_le_div_right (c:=10 ^ (j - 1)) hl
            rw [Nat.div_self (Nat.pow_pos (by omega))] at this
            omega
          refine ⟨Nat.pos_of_ne_zero fun e=>?_,hlt⟩
          rw [e] at hlt
          exact HV.out (by simpa using hlt)
        have hnd:=@nD_is V j hVj hj0
        obtain ⟨y,hy⟩ : ∃ y,V / 10 ^ (j - 1) % 10 = y:=⟨_,rfl⟩
        rw [hy] at hdj hz0' hnd
        obtain ⟨c0,hc0⟩ : ∃ x,(dg V (j - 1)).toNat = x:=⟨_,rfl⟩
        rw [hc0] at hcj hdj
        have Hnd:=Lib.hid hnd;have Hz0:=Lib.hid hz0'
        clear hVj hy hc0 hnd hz0'
        by_cases hy0 : y = 0
        · obtain ⟨hj1,hVj⟩:=Hz0.out hy0
          have HVJ:=Lib.hid hVj
          have d3 : ((c0 : Int) == 48) = true:=by simp;omega
          clear hVj hdj
          go_wp2
          go_roundw
          case rel=>exact ⟨j - 1,hj1,by omega,by go_num,HVJ.out,by first | rfl | trivial⟩
          case measure=>simp [intOf];omega
        · have d3 : ((c0 : Int) == 48) = false:=by simp;omega
          have hn:=Lib.hid (Hnd.out hy0)
          clear Hnd Hz0 hdj
          go_wp2
          obtain ⟨W2,hW2⟩ : ∃ W,W = wr:=⟨_,rfl⟩
          subst hW2
          go_loopw [8,9] (fun v vi w4=>∃ r : Nat,∃ t : Int,r <= j/\vi = .int .i64 t/\t = (j : Int) - 1 - (r : Int)/\w4.ownsRow W2.heap.size 5 1 v r (byteCells ([] ++ (dgs V j).reverse.take r))/\Below W2.heap.size W2 w4) (fun _ vi _=>(intOf vi + 1).toNat)
          case atStart=>exact ⟨0,_,by omega,rfl,by simp,by simp only [List.take_zero,List.append_nil];exact World.ownsRow_nil W2 W2.heap.size 5 1,Below.refl _ _⟩
          case round =>
            obtain ⟨r,t,hr,rfl,ht,hrow,hbl⟩:=hrel
            have Hrow:=Lib.hid hrow;have HB4:=Lib.hid hbl
            have hsz4:=hbl.size
            clear hrow hbl
            by_cases hrj : r < j
            · obtain ⟨ix,hix⟩ : ∃ ix,j - 1 - r = ix:=⟨_,rfl⟩
              have ht2 : t = (ix : Int):=by omega
              clear ht
              subst ht2
              have hcx:=cell_keep (HCD.out ix (by omega)) HB4.out
              have hrt:=rev_take_succ V j r hrj
              rw [hix] at hrt
              obtain ⟨cx,hcx0⟩ : ∃ x,(dg V ix).toNat = x:=⟨_,rfl⟩
              rw [hcx0] at hcx
              have hcl : cx < 256:=by rw [<- hcx0];exact UInt8.toNat_lt _
              have HRT:=Lib.hid hrt;have HCX:=Lib.hid hcx0
              clear hrt hcx0
              have d4 : decide ((0 : Int) <= (ix : Int)) = true:=by simp
              go_wp2_with (at_builtin;refine wpList_append_own _ rfl _ _ 152 rfl W2.heap.size 5 i0 (.int .u8 0) 1 1 Tryz.underlying152 hi hz0 hz1 hz2 rfl (by decide) _ _ _ rfl (Hrow.out.alloc _) ⟨wr.heap.size,0,none⟩ 1 1 [.int .u8 (cx : Int)] rfl rfl (one_new1 wr _ _) (by simp [Value.oneCell']) (by unfold maxLen;omega) (by omega) (by simp;omega) ?_;intro v' w5 hown' hgrow _;obtain ⟨g5,cap5,rfl⟩:=ownsRow_succ hown';have HM:=Lib.hid (And.intro hown' hgrow);clear hown' hgrow)
              have hbig : Below W2.heap.size W2 w5:=(HB4.out.alloc (by omega) _).grown HM.out.2 (by simp;omega) (fun j hj=>(Hrow.out.lt j hj).1)
              have hnew : w5.ownsRow W2.heap.size 5 1 (.slice (some ⟨g5,0,none⟩) (r + 1) cap5) (r + 1) (byteCells (([] : List UInt8) ++ (dgs V j).reverse.take (r + 1))):=by
                rw [HRT.out,<- List.append_assoc,byteCells_snoc,HCX.out];exact HM.out.1
              have Hnew:=Lib.hid hnew;have Hbig:=Lib.hid hbig
              clear hnew hbig
              go_roundw
              case rel=>exact ⟨r + 1,(ix : Int) - 1,by omega,by first | rfl | go_num,by omega,Hnew.out,Hbig.out⟩
              case measure=>simp [intOf]
            · have hrj2 : r = j:=by omega
              have d4 : decide ((0 : Int) <= t) = false:=by simp;omega
              have hrow5:=Hrow.out
              rw [hrj2,List.take_of_length_le (by simp [dgs_length])] at hrow5
              have htext : ([] : List UInt8) ++ (dgs V j).reverse = sgText V false:=by
                unfold sgText
                rw [dec_dgs,hn.out]
                rfl
              rw [htext] at hrow5
              have hlen : (sgText V false).length = j:=by rw [<- htext];simp [dgs_length]
              obtain ⟨jj,hjj⟩ : ∃ jj,j = jj + 1:=⟨j - 1,by omega⟩
              rw [hjj] at hrow5 hlen
              obtain ⟨g6,cap6,hv6,hcv⟩:=row_text hrow5 hlen
              subst hv6
              rw [HT.out] at hcv
              have hlow:=Lib.hid (HBW.out.trans (HB4.out.mono HBW.out.size))
              clear hrow5 htext hlen hjj ht
              go_wp2
              go_ret
              exact ⟨rfl,hlow.out⟩
set_option maxHeartbeats 4000000 in
set_option maxRecDepth 100000 in
theorem refWrite_neg (s : Value) (V : Nat) (hV : V ≠ 0) (hz : Qd.lsz V <= 10000) (w : World) (hs : Mags w s V) : Calls Tryz.prog 67 #[.agg #[.bool true,s]] w fun e w'=>e = .returned (.string ⟨(sgText V true).toArray⟩)/\Below w.heap.size w w':=by
  obtain ⟨i0,hi,hz0,hz1,hz2⟩:=info_parts Tryz.info5
  obtain ⟨p,c,rfl,_,hx⟩:=hs.parts
  have hlt:=Qd.lsz_lt V
  have hzp : 0 < Qd.lsz V:=Nat.pos_of_ne_zero (fun e=>hV (Qd.lsz_eq_zero.1 e))
  obtain ⟨a,ha⟩ : ∃ a,Qd.lsz V = a:=⟨_,rfl⟩
  rw [ha] at hx hlt hz hzp ⊢
  obtain ⟨ga,rfl,hga,hxs⟩:=hx (by omega)
  rw [bb_ten4] at hlt
  have Hlt:=Lib.hid hlt;have HV:=Lib.hid hV;have Hxs:=Lib.hid hxs
  obtain ⟨T,hT⟩ : ∃ T : ByteArray,⟨(sgText V true).toArray⟩ = T:=⟨_,rfl⟩
  rw [hT]
  have HT:=Lib.hid hT
  have kb0 : (w.alloc (.cells #[.bool true,.slice (some ⟨ga,0,none⟩) a c] 74)).cell? ⟨w.heap.size,0,none⟩ = some (.bool true):=by go_simp
  have kb1 : (w.alloc (.cells #[.bool true,.slice (some ⟨ga,0,none⟩) a c] 74)).cell? ⟨w.heap.size,1,none⟩ = some (.slice (some ⟨ga,0,none⟩) a c):=by go_simp
  have hb0 : Below w.heap.size w (w.alloc (.cells #[.bool true,.slice (some ⟨ga,0,none⟩) a c] 74)):=(by repeat' first | exact Below.refl _ _ | assumption | refine Below.setCell ?_ ?_ _ | refine Below.alloc ?_ ?_ _ | refine below_drewN ?_ | refine Below.drew ?_ | (simp;done) | (simp;omega))
  have hs0 : (w.alloc (.cells #[.bool true,.slice (some ⟨ga,0,none⟩) a c] 74)).heap.size = w.heap.size + 1:=by simp
  have da : ((a : Int) == 0) = false:=by simp;omega
  clear hs hx hlt ha hV hxs hT
  go_enter Tryz.func67,Tryz.ntmps67
  go_wp2
  generalize w.alloc (Obj.cells #[.bool true,.slice (some ⟨ga,0,none⟩) a c] 74) = W0 at *
  go_loopw [3,4] (fun v vi wr=>∃ i : Nat,i <= a/\vi = .int .i64 i/\wr.ownsRow (w.heap.size + 1) 5 1 v (4 * i) (byteCells (dgs V (4 * i)))/\Below (w.heap.size + 1) W0 wr) (fun _ vi _=>a - (intOf vi).toNat)
  case atStart=>exact ⟨0,by omega,rfl,World.ownsRow_nil _ _ _ _,Below.refl _ _⟩
  case round =>
    obtain ⟨i,hia,rfl,hrow,hbl⟩:=hrel
    have c0:=(hbl.cell (p:=⟨w.heap.size,0,none⟩) (by simp)).trans kb0
    have c1:=(hbl.cell (p:=⟨w.heap.size,1,none⟩) (by simp)).trans kb1
    have hbw : Below w.heap.size w wr:=hb0.trans (hbl.mono (by omega))
    have hszr : w.heap.size + 1 <= wr.heap.size:=by have:=hbl.size;omega
    have HBL:=Lib.hid hbl;have HBW:=Lib.hid hbw
    clear hbl hbw
    by_cases hlt : i < a
    · have cx:=cell_keep (Hxs.out i hlt) HBW.out
      have hxl:=Qd.lim_lt' V i
      have hdl:=Lib.hid (fun k hk=>dg_lim V i k hk)
      obtain ⟨x,hx0⟩ : ∃ x,Qd.lim V i = x:=⟨_,rfl⟩
      rw [hx0] at cx hxl hdl
      have d1 : decide ((i : Int) < (a : Int)) = true:=by simp;omega
      have HROW:=Lib.hid hrow
      clear hx0 hrow
      go_wp2
      go_loopw [3,5,6] (fun v vl vk w2=>∃ k : Nat,k <= 4/\vk = .int .i64 k/\vl = .int .i64 (x / 10 ^ k : Nat)/\w2.ownsRow (w.heap.size + 1) 5 1 v (4 * i + k) (byteCells (dgs V (4 * i + k)))/\Below (w.heap.size + 1) W0 w2) (fun _ _ vk _=>4 - (intOf vk).toNat)
      case atStart=>exact ⟨0,by omega,rfl,by simp,HROW.out,HBL.out⟩
      case round =>
        obtain ⟨k,hk4,rfl,rfl,hrow,hbl⟩:=hrel
        have hszr : w.heap.size + 1 <= wr.heap.size:=by have:=hbl.size;omega
        by_cases hk : k < 4
        · have hd:=hdl.out k hk
          have hdn:=dg_nat V (4 * i + k)
          rw [<- hd] at hdn
          have hup : x / 10 ^ (k + 1) = x / 10 ^ k / 10:=by rw [Nat.pow_succ,Nat.div_div_eq_div_mul]
          obtain ⟨y,hy⟩ : ∃ y,x / 10 ^ k = y:=⟨_,rfl⟩
          have hyx : y <= x:=by rw [<- hy];exact Nat.div_le_self _ _
          rw [hy] at hdn hup ⊢
          have hs1:=dgs_succ V (4 * i + k)
          have Hrow:=Lib.hid hrow;have HB2:=Lib.hid hbl
          have Hdn:=Lib.hid hdn;have Hup:=Lib.hid hup;have Hs1:=Lib.hid hs1
          clear hd hdn hup hy hs1 hrow hbl
          have d2 : decide ((k : Int) < 4) = true:=by simp;omega
          go_wp2_with (at_builtin;refine wpList_append_own _ rfl _ _ 152 rfl (w.heap.size + 1) 5 i0 (.int .u8 0) 1 1 Tryz.underlying152 hi hz0 hz1 hz2 rfl (by decide) _ _ _ rfl (Hrow.out.alloc _) ⟨wr.heap.size,0,none⟩ 1 1 [.int .u8 (48 + (y : Int) % 10)] rfl rfl (one_new1 wr _ _) (by simp [Value.oneCell']) (by unfold maxLen;omega) (by omega) (by simp;omega) ?_;intro v' w3 hown' hgrow _;obtain ⟨g',cap',rfl⟩:=ownsRow_succ hown';have HN:=Lib.hid (And.intro hown' hgrow);clear hown' hgrow)
          have hbig : Below (w.heap.size + 1) W0 w3:=(HB2.out.alloc (by omega) _).grown HN.out.2 (by simp;omega) (fun j hj=>(Hrow.out.lt j hj).1)
          have hnew : w3.ownsRow (w.heap.size + 1) 5 1 (.slice (some ⟨g',0,none⟩) (4 * i + k + 1) cap') (4 * i + (k + 1)) (byteCells (dgs V (4 * i + (k + 1)))):=by
            rw [show 4 * i + (k + 1) = (4 * i + k) + 1 by omega,Hs1.out,byteCells_snoc]
            have e : ((dg V (4 * i + k)).toNat : Int) = 48 + (y : Int) % 10:=by rw [Hdn.out];omega
            rw [e];exact HN.out.1
          have Hnew:=Lib.hid hnew;have Hbig:=Lib.hid hbig
          clear hnew hbig
          go_roundw
          case rel=>exact ⟨k + 1,by omega,by go_num,by rw [Hup.out];rfl,Hnew.out,Hbig.out⟩
          case measure=>simp [intOf];omega
        · have hk2 : k = 4:=by omega
          subst hk2
          have HROW2:=Lib.hid hrow;have HB2:=Lib.hid hbl
          clear hrow hbl
          go_wp2
          go_roundw
          case rel=>exact ⟨i + 1,by omega,by go_num,HROW2.out,HB2.out⟩
          case measure=>simp [intOf];omega
    · have hia2 : i = a:=by omega
      subst hia2
      have d1 : decide ((i : Int) < (i : Int)) = false:=by simp
      obtain ⟨m,hm⟩ : ∃ m,4 * i = m:=⟨_,rfl⟩
      have hm0 : 0 < m:=by omega
      have hm4 : m <= 40000:=by omega
      have hlt4:=Hlt.out
      rw [hm] at hrow hlt4
      obtain ⟨q,hq⟩ : ∃ q,m = q + 1:=⟨m - 1,by omega⟩
      have hrow2:=hrow
      rw [hq] at hrow2
      obtain ⟨gd,capd,rfl⟩:=ownsRow_succ hrow2
      rw [<- hq] at hrow2
      have hgd:=(hrow2.lt gd rfl).2
      have hcd : ∀ j,j < m->wr.cell? ⟨gd,j,none⟩ = some (.int .u8 ((dg V j).toNat : Int)):=fun j hj=>by
        have:=row_cell hrow2 j (by rw [dgs_length];exact hj)
        rwa [dgs_get] at this
      have HCD:=Lib.hid hcd
      have Hlt4:=Lib.hid hlt4
      clear hrow hrow2 hcd hlt4
      rw [<- hq]
      clear hq q hm Hxs Hlt
      go_wp2
      go_loopw [7] (fun vn w2=>∃ j : Nat,0 < j/\j <= m/\vn = .int .i64 j/\V < 10 ^ j/\w2 = wr) (fun vn _=>(intOf vn).toNat)
      case atStart=>exact ⟨m,hm0,Nat.le_refl _,by first | rfl | go_num,Hlt4.out,rfl⟩
      case round =>
        obtain ⟨j,hj0,hjm,rfl,hVj,rfl⟩:=hrel
        have hcj:=HCD.out (j - 1) (by omega)
        have hdj:=dg_nat V (j - 1)
        have hz0' : V / 10 ^ (j - 1) % 10 = 0->0 < j - 1/\V < 10 ^ (j - 1):=by
          intro h
          have h10 : V < 10 ^ (j - 1) * 10:=by rw [<- Nat.pow_succ];show V < 10 ^ (j - 1 + 1);rw [show j - 1 + 1 = j by omega];exact hVj
          have hq : V / 10 ^ (j - 1) < 10:=(Nat.div_lt_iff_lt_mul (Nat.pow_pos (by omega))).2 (by rw [Nat.mul_comm];exact h10)
          have hlt : V < 10 ^ (j - 1):=by
            apply Nat.lt_of_not_le;intro hl
            have:=Nat.div_le_div_right (c:=10 ^ (j - 1)) hl
            rw [Nat.div_self (Nat.pow_pos (by omega))] at this
            omega
          refine ⟨Nat.pos_of_ne_zero fun e=>?_,hlt⟩
          rw [e] at hlt
          exact HV.out (by simpa using hlt)
        have hnd:=@nD_is V j hVj hj0
        obtain ⟨y,hy⟩ : ∃ y,V / 10 ^ (j - 1) % 10 = y:=⟨_,rfl⟩
        rw [hy] at hdj hz0' hnd
        obtain ⟨c0,hc0⟩ : ∃ x,(dg V (j - 1)).toNat = x:=⟨_,rfl⟩
        rw [hc0] at hcj hdj
        have Hnd:=Lib.hid hnd;have Hz0:=Lib.hid hz0'
        clear hVj hy hc0 hnd hz0'
        by_cases hy0 : y = 0
        · obtain ⟨hj1,hVj⟩:=Hz0.out hy0
          have HVJ:=Lib.hid hVj
          have d3 : ((c0 : Int) == 48) = true:=by simp;omega
          clear hVj hdj
          go_wp2
          go_roundw
          case rel=>exact ⟨j - 1,hj1,by omega,by go_num,HVJ.out,by first | rfl | trivial⟩
          case measure=>simp [intOf];omega
        · have d3 : ((c0 : Int) == 48) = false:=by simp;omega
          have hn:=Lib.hid (Hnd.out hy0)
          clear Hnd Hz0 hdj
          go_wp2_with (at_builtin;refine wpList_append_own _ rfl _ _ 152 rfl wr.heap.size 5 i0 (.int .u8 0) 1 1 Tryz.underlying152 hi hz0 hz1 hz2 rfl (by decide) _ 0 [] rfl ((World.ownsRow_nil wr wr.heap.size 5 1).alloc _) ⟨wr.heap.size,0,none⟩ 1 1 [.int .u8 45] rfl rfl (one_new1 wr _ _) (by simp [Value.oneCell']) (by unfold maxLen;omega) (by omega) (by simp) ?_;intro v' w3 hown' hgrow _;obtain ⟨g',cap',rfl⟩:=ownsRow_succ hown';have HN:=Lib.hid (And.intro hown' hgrow);clear hown' hgrow)
          have hb3 : Below wr.heap.size wr w3:=((Below.refl _ wr).alloc (Nat.le_refl _) _).grown HN.out.2 (by simp) (fun j hj=>by cases hj)
          have HB3:=Lib.hid hb3
          clear hb3
          obtain ⟨W2,hW2⟩ : ∃ W,W = wr:=⟨_,rfl⟩
          subst hW2
          go_loopw [8,9] (fun v vi w4=>∃ r : Nat,∃ t : Int,r <= j/\vi = .int .i64 t/\t = (j : Int) - 1 - (r : Int)/\w4.ownsRow W2.heap.size 5 1 v (1 + r) (byteCells ([45] ++ (dgs V j).reverse.take r))/\Below W2.heap.size W2 w4) (fun _ vi _=>(intOf vi + 1).toNat)
          case atStart=>exact ⟨0,_,by omega,rfl,by simp,by simp only [List.take_zero,List.append_nil];exact HN.out.1,HB3.out⟩
          case round =>
            obtain ⟨r,t,hr,rfl,ht,hrow,hbl⟩:=hrel
            have Hrow:=Lib.hid hrow;have HB4:=Lib.hid hbl
            have hsz4:=hbl.size
            clear hrow hbl
            by_cases hrj : r < j
            · obtain ⟨ix,hix⟩ : ∃ ix,j - 1 - r = ix:=⟨_,rfl⟩
              have ht2 : t = (ix : Int):=by omega
              clear ht
              subst ht2
              have hcx:=cell_keep (HCD.out ix (by omega)) HB4.out
              have hrt:=rev_take_succ V j r hrj
              rw [hix] at hrt
              obtain ⟨cx,hcx0⟩ : ∃ x,(dg V ix).toNat = x:=⟨_,rfl⟩
              rw [hcx0] at hcx
              have hcl : cx < 256:=by rw [<- hcx0];exact UInt8.toNat_lt _
              have HRT:=Lib.hid hrt;have HCX:=Lib.hid hcx0
              clear hrt hcx0
              have d4 : decide ((0 : Int) <= (ix : Int)) = true:=by simp
              go_wp2_with (at_builtin;refine wpList_append_own _ rfl _ _ 152 rfl W2.heap.size 5 i0 (.int .u8 0) 1 1 Tryz.underlying152 hi hz0 hz1 hz2 rfl (by decide) _ _ _ rfl (Hrow.out.alloc _) ⟨wr.heap.size,0,none⟩ 1 1 [.int .u8 (cx : Int)] rfl rfl (one_new1 wr _ _) (by simp [Value.oneCell']) (by unfold maxLen;omega) (by omega) (by simp;omega) ?_;intro v' w5 hown' hgrow _;obtain ⟨g5,cap5,rfl⟩:=ownsRow_succ hown';have HM:=Lib.hid (And.intro hown' hgrow);clear hown' hgrow)
              have hbig : Below W2.heap.size W2 w5:=(HB4.out.alloc (by omega) _).grown HM.out.2 (by simp;omega) (fun j hj=>(Hrow.out.lt j hj).1)
              have hnew : w5.ownsRow W2.heap.size 5 1 (.slice (some ⟨g5,0,none⟩) (1 + r + 1) cap5) (1 + (r + 1)) (byteCells (([45] : List UInt8) ++ (dgs V j).reverse.take (r + 1))):=by
                rw [HRT.out,<- List.append_assoc,byteCells_snoc,HCX.out];exact HM.out.1
              have Hnew:=Lib.hid hnew;have Hbig:=Lib.hid hbig
              clear hnew hbig
              go_roundw
              case rel=>exact ⟨r + 1,(ix : Int) - 1,by omega,by first | rfl | go_num,by omega,Hnew.out,Hbig.out⟩
              case measure=>simp [intOf]
            · have hrj2 : r = j:=by omega
              have d4 : decide ((0 : Int) <= t) = false:=by simp;omega
              have hrow5:=Hrow.out
              rw [hrj2,List.take_of_length_le (by simp [dgs_length])] at hrow5
              have htext : ([45] : List UInt8) ++ (dgs V j).reverse = sgText V true:=by
                unfold sgText
                rw [dec_dgs,hn.out]
                rfl
              rw [htext] at hrow5
              have hlen : (sgText V true).length = 1 + j:=by rw [<- htext];simp [dgs_length];omega
              obtain ⟨jj,hjj⟩ : ∃ jj,1 + j = jj + 1:=⟨1 + j - 1,by omega⟩
              rw [hjj] at hrow5 hlen
              obtain ⟨g6,cap6,hv6,hcv⟩:=row_text hrow5 hlen
              subst hv6
              rw [HT.out] at hcv
              have hlow:=Lib.hid (HBW.out.trans (HB4.out.mono HBW.out.size))
              clear hrow5 htext hlen hjj ht
              go_wp2
              go_ret
              exact ⟨rfl,hlow.out⟩
end
section
open Go.RowKit
open Qd (lims)
open Go.Lib (decDigits nDigits decDigits_length byteCells)
theorem refWrite_any (x : Value) (z : Int) (h : Qd.lsz z.natAbs <= 10000) (w : World) (hx : BigAt w x z) : Calls Tryz.prog 67 #[x] w fun e w'=>e = .returned (.string (tz z))/\Below w.heap.size w w':=by
  obtain ⟨s,rfl,hs⟩:=hx
  unfold tz
  by_cases h0 : z = 0
  · subst h0
    have:=refWrite_zero (decide ((0 : Int) < 0)) s w hs
    refine this.mono ?_
    rintro e w' ⟨rfl,hb⟩
    refine ⟨?_,hb⟩
    rw [show sgText (0 : Int).natAbs (decide ((0 : Int) < 0)) = [48] by simp [sgText,Lib.decDigits_one]]
  · by_cases hn : z < 0
    · rw [decide_eq_true hn];exact refWrite_neg s _ (by omega) h w hs
    · rw [decide_eq_false hn];exact refWrite_pos s _ (by omega) h w hs
theorem areDig_dec (n : Nat) : areDig (decDigits n) = true:=by
  have hd:=decDigits_dig n
  unfold areDig
  rw [List.all_eq_true.2 hd,Bool.true_and]
  cases hl : decDigits n with
  | nil=>have:=decDigits_length n;rw [hl] at this;have:=nD_pos n;simp at *;omega
  | cons c l=>rfl
theorem dec_head_ne {n : Nat} (h0 : n ≠ 0) : (decDigits n).head? ≠ some 48:=by
  rcases dec_head n n (Nat.le_refl _) with h3 | h3
  · exact h3
  · exact absurd h3 h0
theorem ckL_big (l : List UInt8) (n : Nat) (hl : noMinus l = decDigits n) (h : 120 < nDigits n) : ckL l = 4:=by
  have h0 : n ≠ 0:=by rintro rfl;rw [nD_one 0 (by omega)] at h;omega
  unfold ckL
  rw [hl,if_neg (by rw [areDig_dec];decide),if_neg (fun e=>dec_head_ne h0 e.1),if_pos (by rw [decDigits_length];exact h)]
theorem ckL_tz_big {z : Int} (h : ¬ z.natAbs < 10 ^ 120) : ckL (tz z).data.toList = 4:=by
  have h1 : 120 < nDigits z.natAbs:=by
    rcases Nat.lt_or_ge 120 (nDigits z.natAbs) with h2 | h2
    · exact h2
    · exact absurd (nD_lt 120 _ h2) h
  by_cases hz : z < 0
  · rw [tz_neg hz];exact ckL_big _ _ (noMinus_neg _) h1
  · rw [tz_pos (by omega)];exact ckL_big _ _ (noMinus_dig _ (decDigits_dig _)) h1
theorem tz_size (z : Int) (h : Qd.lsz z.natAbs <= 10000) : (tz z).size <= 9223372036854775806:=by
  have h1 : nDigits z.natAbs <= 40000:=by
    have hlt:=Qd.lsz_lt z.natAbs
    rw [bb_ten4] at hlt
    obtain ⟨L,hL⟩ : ∃ L,Qd.lsz z.natAbs = L:=⟨_,rfl⟩
    rw [hL] at hlt h
    by_cases h0 : L = 0
    · subst h0
      rw [nD_one _ (by simp at hlt;omega)];omega
    · obtain ⟨K,hK⟩ : ∃ K,4 * L = K + 1:=⟨4 * L - 1,by omega⟩
      rw [hK] at hlt
      have:=nD_le K _ hlt
      omega
  have h2 : (tz z).size = (tz z).data.toList.length:=by simp
  rw [h2]
  by_cases hz : z < 0
  · rw [tz_neg hz,List.length_cons,decDigits_length];omega
  · rw [tz_pos (by omega),decDigits_length];omega
theorem refResult_c (E : Int) (x : Value) (z : Int) (hE : ckL (tz z).data.toList = E) (h : Qd.lsz z.natAbs <= 10000) (w : World) (hx : BigAt w x z) :
    Calls Tryz.prog 75 #[x] w fun e w'=>e = .returned (if E = 0 then .tuple #[.string (tz z),.int .i64 0] else .tuple #[.string ⟨#[]⟩,.int .i64 E])/\Below w.heap.size w w':=by
  have C1:=Lib.hid (fun W (hb : Below w.heap.size w W)=>refWrite_any x z h W (hx.keep hb))
  have hck:=fun W=>refCheck_any (tz z) (tz_size z h) W
  rw [hE] at hck
  have C2:=Lib.hid hck
  obtain ⟨b,p,k,c,rfl⟩:=hx.shape
  obtain ⟨T,hT⟩ : ∃ T,tz z = T:=⟨_,rfl⟩
  rw [hT] at C1 C2
  rw [hT]
  clear hE h hck hT hx
  by_cases h0 : E = 0
  · subst h0
    rw [if_pos rfl]
    go_enter Tryz.func75,Tryz.ntmps75
    go_wp2_with (first
      | (go_at_call 67;(with_reducible refine (C1.out _ (by repeat' first | exact Below.refl _ _ | assumption | refine Below.setCell ?_ ?_ _ | refine Below.alloc ?_ ?_ _ | refine below_drewN ?_ | refine Below.drew ?_ | (simp;done) | (simp;omega))).mono ?_);rintro e w1 ⟨rfl,hb1⟩;have HB:=Lib.hid (Below.trans (a:=w) (B:=w.heap.size) (by repeat' first | exact Below.refl _ _ | assumption | refine Below.setCell ?_ ?_ _ | refine Below.alloc ?_ ?_ _ | refine below_drewN ?_ | refine Below.drew ?_ | (simp;done) | (simp;omega)) (Below.mono hb1 (Below.size (B:=w.heap.size) (w:=w) (by repeat' first | exact Below.refl _ _ | assumption | refine Below.setCell ?_ ?_ _ | refine Below.alloc ?_ ?_ _ | refine below_drewN ?_ | refine Below.drew ?_ | (simp;done) | (simp;omega)))));clear hb1)
      | (go_at_call 13;(with_reducible refine (C2.out _).mono ?_);rintro e w2 ⟨rfl,rfl⟩))
    go_ret2
    exact ⟨rfl,HB.out⟩
  · rw [if_neg h0]
    have d0 : (E != 0) = true:=by simpa using h0
    go_enter Tryz.func75,Tryz.ntmps75
    go_wp2_with (first
      | (go_at_call 67;(with_reducible refine (C1.out _ (by repeat' first | exact Below.refl _ _ | assumption | refine Below.setCell ?_ ?_ _ | refine Below.alloc ?_ ?_ _ | refine below_drewN ?_ | refine Below.drew ?_ | (simp;done) | (simp;omega))).mono ?_);rintro e w1 ⟨rfl,hb1⟩;have HB:=Lib.hid (Below.trans (a:=w) (B:=w.heap.size) (by repeat' first | exact Below.refl _ _ | assumption | refine Below.setCell ?_ ?_ _ | refine Below.alloc ?_ ?_ _ | refine below_drewN ?_ | refine Below.drew ?_ | (simp;done) | (simp;omega)) (Below.mono hb1 (Below.size (B:=w.heap.size) (w:=w) (by repeat' first | exact Below.refl _ _ | assumption | refine Below.setCell ?_ ?_ _ | refine Below.alloc ?_ ?_ _ | refine below_drewN ?_ | refine Below.drew ?_ | (simp;done) | (simp;omega)))));clear hb1)
      | (go_at_call 13;(with_reducible refine (C2.out _).mono ?_);rintro e w2 ⟨rfl,rfl⟩))
    go_ret2
    exact ⟨rfl,HB.out⟩
theorem refResult_any (x : Value) (z : Int) (h : Qd.lsz z.natAbs <= 10000) (w : World) (hx : BigAt w x z) : Calls Tryz.prog 75 #[x] w fun e w'=>e = .returned (resI z)/\Below w.heap.size w w':=by
  unfold resI
  by_cases hz : z.natAbs < 10 ^ 120
  · have:=refResult_c 0 x z (okz_tz hz) h w hx
    rw [if_pos rfl] at this
    rw [if_pos hz]
    exact this
  · have:=refResult_c 4 x z (ckL_tz_big hz) h w hx
    rw [if_neg (by decide)] at this
    rw [if_neg hz]
    exact this
end
end Go.Proofs.YtpbegoflpfdajaaGreatDoor
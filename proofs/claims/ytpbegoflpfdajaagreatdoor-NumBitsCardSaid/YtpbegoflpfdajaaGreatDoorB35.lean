/- WHAT IS PROVED: contracts of functions of the numbers package and laws for them, used by the last text of this claim. CONDITIONS: stated at each theorem. -/
import Derived.Laws.AppendOwn
import Derived.Test.YtpbegoflpfdajaaGreatDoorB11
import Derived.Test.YtpbegoflpfdajaaGreatDoorB34
import Derived.BigQuiet
import Derived.Deep.QuietTactic
namespace Go.Proofs.YtpbegoflpfdajaaGreatDoor
section
open Go.RowKit
open Qd (lims)
theorem Tryz.info3 : (Tryz.prog.info? 3).map (fun i=>(i.zero,i.size,i.bytes)) = some (some (.int .i64 0),1,8):=by kernel_rfl
def limV (l : List Nat) : List Value:=l.map fun (x : Nat)=>Value.int .i64 (x : Int)
theorem limV_snoc (l : List Nat) (x : Nat) : limV (l ++ [x]) = limV l ++ [.int .i64 (x : Int)]:=by simp [limV]
theorem limV_succ (n k : Nat) : limV (lims n (k + 1)) = limV (lims n k) ++ [.int .i64 (Qd.lim n k : Nat)]:=by rw [Qd.lims_succ,limV_snoc]
theorem mg_of_row {w : World} {base k : Nat} {v : Value} {l : List Nat} (h : w.ownsRow base 3 1 v k (limV l)) : Mg w v l:=by
  have hl : l.length = k:=by simpa [limV] using h.1
  have hlt:=h.lt
  have hcs : ∀ g,v.ownBlock = some g->_:=fun g hg=>h.cells (g:=g) hg
  rcases h.2 with ⟨rfl,rfl⟩ | ⟨g,cap,cur,rfl,hbg,hg,hnc,hcm,hsz,htake⟩
  · exact ⟨none,0,by rw [hl],by omega,fun hne=>absurd (List.eq_nil_of_length_eq_zero hl) hne⟩
  · refine ⟨some ⟨g,0,none⟩,cap,by rw [hl],by omega,fun _=>⟨g,rfl,(hlt g rfl).2,fun i hi=>?_⟩⟩
    have:=hcs g rfl i (.int .i64 (l[i] : Int)) (by simp [limV,hi])
    rwa [Addr.add_lit,Nat.zero_add] at this
theorem limb_at {v : Value} {n : Nat} (hn : Qd.lsz n <= 10000) {w : World} (h : Mags w v n) (k : Nat) (hk : k <= 30000) (W : World) (hb : Below w.heap.size w W) :
    Calls Tryz.prog 152 #[v,.int .i64 k] W fun e w'=>e = .returned (.int .i64 ((Qd.lim n k : Nat) : Int))/\Below W.heap.size W w':=by
  have:=refLimb_any v _ k (by rw [Qd.lims_length];omega) (by omega) W (h.keep hb)
  rw [Qd.lims_getD _ _ _ (Qd.lsz_lt n)] at this
  refine this.mono ?_
  rintro e w' ⟨rfl,rfl⟩
  exact ⟨rfl,Below.refl _ _⟩
set_option maxHeartbeats 4000000 in
set_option maxRecDepth 100000 in
theorem refPlusM_any (s t : Value) (m n : Nat) (h1 : Qd.lsz m <= 10000) (h2 : Qd.lsz n <= 10000) (w : World) (hs : Mags w s m) (ht : Mags w t n) :
    Calls Tryz.prog 148 #[s,t] w fun e w'=>∃ v,e = .returned v/\Mags w' v (m + n)/\Below w.heap.size w w':=by
  obtain ⟨i0,hi,hz0,hz1,hz2⟩:=info_parts Tryz.info3
  have Cs:=Lib.hid (limb_at h1 hs);have Ct:=Lib.hid (limb_at h2 ht)
  obtain ⟨p,c,rfl,_,_⟩:=hs.parts
  obtain ⟨q,d,rfl,_,_⟩:=ht.parts
  obtain ⟨a,ha⟩ : ∃ a,Qd.lsz m = a:=⟨_,rfl⟩
  obtain ⟨b,hb⟩ : ∃ b,Qd.lsz n = b:=⟨_,rfl⟩
  have Ha:=Lib.hid ha;have Hb:=Lib.hid hb
  rw [ha] at h1 Cs ⊢
  rw [hb] at h2 Ct ⊢
  clear hs ht ha hb
  go_enter Tryz.func148,Tryz.ntmps148
  go_wp2
  go_loopw [5,6,7] (fun v y i wr=>∃ k : Nat,k <= 10001/\i = .int .i64 k/\y = .int .i64 (Qd.car m n k : Nat)/\(k = 0 ∨ Qd.bb ^ (k - 1) <= m + n)/\wr.ownsRow w.heap.size 3 1 v k (limV (lims (m + n) k))/\Below w.heap.size w wr) (fun _ _ i _=>20000 - (intOf i).toNat)
  case atStart=>exact ⟨0,by omega,rfl,by rw [Qd.car_zero];rfl,Or.inl rfl,World.ownsRow_nil _ _ _ _,Below.refl _ _⟩
  case round =>
    obtain ⟨k,hk,rfl,rfl,hge,hrow,hbl⟩:=hrel
    have hx4:=Qd.lim_lt' m k;have hy4:=Qd.lim_lt' n k;have hc1:=Qd.car_le m n k
    have hl:=Qd.lim_add m n k;have hcs:=Qd.car_succ m n k
    have hsucc:=limV_succ (m + n) k
    have hge2:=@Qd.sum_ge m n k
    have hle2:=@Qd.car_le_lsz m n k
    have hend:=@Qd.sum_lsz m n k
    rw [Ha.out,Hb.out] at hge2 hle2 hend
    obtain ⟨x,hx⟩ : ∃ x,Qd.lim m k = x:=⟨_,rfl⟩
    obtain ⟨y,hy⟩ : ∃ y,Qd.lim n k = y:=⟨_,rfl⟩
    obtain ⟨z,hz⟩ : ∃ z,Qd.car m n k = z:=⟨_,rfl⟩
    have cs:=Cs.out k (by omega);have ct:=Ct.out k (by omega)
    rw [hx] at cs;rw [hy] at ct
    rw [hx,hy,hz] at hl hcs
    rw [hx] at hx4;rw [hy] at hy4;rw [hz] at hc1
    rw [hl] at hsucc
    rw [hz] at hge2 hle2 hend ⊢
    have CS:=Lib.hid cs;have CT:=Lib.hid ct
    have Hrow:=Lib.hid hrow;have Hbl:=Lib.hid hbl
    have Hs:=Lib.hid hsucc;have Hcs:=Lib.hid hcs
    have Hge2:=Lib.hid hge2;have Hend:=Lib.hid hend;have Hge:=Lib.hid hge
    have hbr:=hbl.size
    clear hx hy hz hl hcs cs ct hrow hbl hsucc hge2 hend hge
    by_cases hgo : k < a ∨ k < b ∨ 0 < z
    · have hk2 : k <= 10000:=by omega
      have HG:=Lib.hid (Hge2.out hgo)
      by_cases ha : k < a
      · have d1 : decide ((k : Int) < (a : Int)) = true:=by simp;omega
        go_wp2_with (first
          | (go_at_call 152;(with_reducible refine (CS.out _ Hbl.out).mono ?_);rintro e wa ⟨rfl,hba⟩;have HA:=Lib.hid hba;have HBA:=Lib.hid (Hbl.out.trans (hba.mono hbr));have hbra:=hba.size;have HOA:=Lib.hid (ownsRow_below' Hrow.out hba);clear hba)
          | (go_at_call 152;(with_reducible refine (CT.out _ HBA.out).mono ?_);rintro e wb ⟨rfl,hbb⟩;have HBB:=Lib.hid (HBA.out.trans (hbb.mono (Nat.le_trans hbr hbra)));have hbrb:=hbb.size;have HOB:=Lib.hid (ownsRow_below' HOA.out hbb);clear hbb)
          | (at_builtin;refine wpList_append_own _ rfl _ _ 72 rfl w.heap.size 3 i0 (.int .i64 0) 1 8 Tryz.underlying72 hi hz0 hz1 hz2 rfl (by decide) _ _ _ rfl (HOB.out.alloc _) ⟨wb.heap.size,0,none⟩ 1 1 [.int .i64 (((x : Int) + (y : Int) + (z : Int)) % 10000)] rfl rfl (one_new1 _ _ _) (by simp [Value.oneCell']) (by unfold maxLen;omega) (by omega) (by simp;omega) ?_;intro v' w3 hown' hgrow _;have HN:=Lib.hid (And.intro hown' hgrow);clear hown' hgrow))
        have hbig : Below w.heap.size w w3:=(HBB.out.alloc (by omega) _).grown HN.out.2 (by simp;omega) (fun j hj=>(HOB.out.lt j hj).1)
        have hnew : w3.ownsRow w.heap.size 3 1 v' (k + 1) (limV (lims (m + n) (k + 1))):=by
          rw [Hs.out]
          have e : (((x + y + z) % Qd.bb : Nat) : Int) = ((x : Int) + (y : Int) + (z : Int)) % 10000:=by show (((x + y + z) % 10000 : Nat) : Int) = _;omega
          rw [e];exact HN.out.1
        have Hnew:=Lib.hid hnew
        have Hbig:=Lib.hid hbig
        clear hbig hnew
        go_roundw
        case rel=>exact ⟨k + 1,by omega,by go_num,by rw [Hcs.out];rfl,Or.inr HG.out,Hnew.out,Hbig.out⟩
        case measure=>simp [intOf];omega
      by_cases hb : k < b
      · have d1 : decide ((k : Int) < (a : Int)) = false:=by simp;omega
        have d2 : decide ((k : Int) < (b : Int)) = true:=by simp;omega
        go_wp2_with (first
          | (go_at_call 152;(with_reducible refine (CS.out _ Hbl.out).mono ?_);rintro e wa ⟨rfl,hba⟩;have HA:=Lib.hid hba;have HBA:=Lib.hid (Hbl.out.trans (hba.mono hbr));have hbra:=hba.size;have HOA:=Lib.hid (ownsRow_below' Hrow.out hba);clear hba)
          | (go_at_call 152;(with_reducible refine (CT.out _ HBA.out).mono ?_);rintro e wb ⟨rfl,hbb⟩;have HBB:=Lib.hid (HBA.out.trans (hbb.mono (Nat.le_trans hbr hbra)));have hbrb:=hbb.size;have HOB:=Lib.hid (ownsRow_below' HOA.out hbb);clear hbb)
          | (at_builtin;refine wpList_append_own _ rfl _ _ 72 rfl w.heap.size 3 i0 (.int .i64 0) 1 8 Tryz.underlying72 hi hz0 hz1 hz2 rfl (by decide) _ _ _ rfl (HOB.out.alloc _) ⟨wb.heap.size,0,none⟩ 1 1 [.int .i64 (((x : Int) + (y : Int) + (z : Int)) % 10000)] rfl rfl (one_new1 _ _ _) (by simp [Value.oneCell']) (by unfold maxLen;omega) (by omega) (by simp;omega) ?_;intro v' w3 hown' hgrow _;have HN:=Lib.hid (And.intro hown' hgrow);clear hown' hgrow))
        have hbig : Below w.heap.size w w3:=(HBB.out.alloc (by omega) _).grown HN.out.2 (by simp;omega) (fun j hj=>(HOB.out.lt j hj).1)
        have hnew : w3.ownsRow w.heap.size 3 1 v' (k + 1) (limV (lims (m + n) (k + 1))):=by
          rw [Hs.out]
          have e : (((x + y + z) % Qd.bb : Nat) : Int) = ((x : Int) + (y : Int) + (z : Int)) % 10000:=by show (((x + y + z) % 10000 : Nat) : Int) = _;omega
          rw [e];exact HN.out.1
        have Hnew:=Lib.hid hnew
        have Hbig:=Lib.hid hbig
        clear hbig hnew
        go_roundw
        case rel=>exact ⟨k + 1,by omega,by go_num,by rw [Hcs.out];rfl,Or.inr HG.out,Hnew.out,Hbig.out⟩
        case measure=>simp [intOf];omega
      · have d1 : decide ((k : Int) < (a : Int)) = false:=by simp;omega
        have d2 : decide ((k : Int) < (b : Int)) = false:=by simp;omega
        have d3 : decide ((0 : Int) < (z : Int)) = true:=by simp;omega
        go_wp2_with (first
          | (go_at_call 152;(with_reducible refine (CS.out _ Hbl.out).mono ?_);rintro e wa ⟨rfl,hba⟩;have HA:=Lib.hid hba;have HBA:=Lib.hid (Hbl.out.trans (hba.mono hbr));have hbra:=hba.size;have HOA:=Lib.hid (ownsRow_below' Hrow.out hba);clear hba)
          | (go_at_call 152;(with_reducible refine (CT.out _ HBA.out).mono ?_);rintro e wb ⟨rfl,hbb⟩;have HBB:=Lib.hid (HBA.out.trans (hbb.mono (Nat.le_trans hbr hbra)));have hbrb:=hbb.size;have HOB:=Lib.hid (ownsRow_below' HOA.out hbb);clear hbb)
          | (at_builtin;refine wpList_append_own _ rfl _ _ 72 rfl w.heap.size 3 i0 (.int .i64 0) 1 8 Tryz.underlying72 hi hz0 hz1 hz2 rfl (by decide) _ _ _ rfl (HOB.out.alloc _) ⟨wb.heap.size,0,none⟩ 1 1 [.int .i64 (((x : Int) + (y : Int) + (z : Int)) % 10000)] rfl rfl (one_new1 _ _ _) (by simp [Value.oneCell']) (by unfold maxLen;omega) (by omega) (by simp;omega) ?_;intro v' w3 hown' hgrow _;have HN:=Lib.hid (And.intro hown' hgrow);clear hown' hgrow))
        have hbig : Below w.heap.size w w3:=(HBB.out.alloc (by omega) _).grown HN.out.2 (by simp;omega) (fun j hj=>(HOB.out.lt j hj).1)
        have hnew : w3.ownsRow w.heap.size 3 1 v' (k + 1) (limV (lims (m + n) (k + 1))):=by
          rw [Hs.out]
          have e : (((x + y + z) % Qd.bb : Nat) : Int) = ((x : Int) + (y : Int) + (z : Int)) % 10000:=by show (((x + y + z) % 10000 : Nat) : Int) = _;omega
          rw [e];exact HN.out.1
        have Hnew:=Lib.hid hnew
        have Hbig:=Lib.hid hbig
        clear hbig hnew
        go_roundw
        case rel=>exact ⟨k + 1,by omega,by go_num,by rw [Hcs.out];rfl,Or.inr HG.out,Hnew.out,Hbig.out⟩
        case measure=>simp [intOf];omega
    · have d1 : decide ((k : Int) < (a : Int)) = false:=by simp;omega
      have d2 : decide ((k : Int) < (b : Int)) = false:=by simp;omega
      have d3 : decide ((0 : Int) < (z : Int)) = false:=by simp;omega
      have hz:=Hend.out (by omega) (by omega) (by omega) Hge.out
      have Hz:=Lib.hid hz
      clear hz
      go_wp2
      go_ret
      exact ⟨_,rfl,by unfold Mags;rw [Hz.out];exact mg_of_row Hrow.out,Hbl.out⟩
end
section
open Go.RowKit
open Qd (lims)
set_option maxHeartbeats 2000000 in
set_option maxRecDepth 100000 in
theorem refMag_any (s t : Value) (m n : Nat) (h1 : Qd.lsz m <= 10000) (h2 : Qd.lsz n <= 10000) (w : World) (hs : Mags w s m) (ht : Mags w t n) :
    Calls Tryz.prog 149 #[s,t] w fun e w'=>e = .returned (.int .i64 (cmpN m n))/\Below w.heap.size w w':=by
  obtain ⟨p,c,rfl,_,hx⟩:=hs.parts
  obtain ⟨q,d,rfl,_,hy⟩:=ht.parts
  have hlt : Qd.lsz m < Qd.lsz n->m < n:=fun h=>Nat.lt_of_not_le fun hl=>by have:=Qd.lsz_mono hl;omega
  have hgt : Qd.lsz n < Qd.lsz m->n < m:=fun h=>Nat.lt_of_not_le fun hl=>by have:=Qd.lsz_mono hl;omega
  have hm0:=Qd.lsz_lt m;have hn0:=Qd.lsz_lt n
  have hcm : ∀ x,(∀ z,cmpN m n = z->z = x)->cmpN m n = x:=fun x h=>h _ rfl
  obtain ⟨a,ha⟩ : ∃ a,Qd.lsz m = a:=⟨_,rfl⟩
  obtain ⟨b,hb⟩ : ∃ b,Qd.lsz n = b:=⟨_,rfl⟩
  rw [ha] at h1 hx hlt hgt hm0 ⊢
  rw [hb] at h2 hy hlt hgt hn0 ⊢
  obtain ⟨r,hr⟩ : ∃ r,cmpN m n = r:=⟨_,rfl⟩
  rw [hr]
  unfold cmpN at hr
  clear hs ht ha hb hcm
  have Hx:=Lib.hid hx;have Hy:=Lib.hid hy;have Hr:=Lib.hid hr
  clear hx hy
  rcases Nat.lt_trichotomy a b with h | h | h
  · have d1 : ((a : Int) != (b : Int)) = true:=by simp;omega
    have d2 : decide (a < b) = true:=by simp;omega
    rw [if_pos (hlt h)] at hr
    subst hr
    clear Hr hlt hgt h
    go_enter Tryz.func149,Tryz.ntmps149
    go_wp2
    go_ret
    exact ⟨rfl,Below.refl _ _⟩
  · subst h
    have Hm0:=Lib.hid hm0;have Hn0:=Lib.hid hn0
    have d1 : ((a : Int) != (a : Int)) = false:=by simp
    clear hr hlt hgt hm0 hn0
    go_enter Tryz.func149,Tryz.ntmps149
    go_wp2
    go_loopw [5] (fun i wr=>∃ j : Nat,∃ t : Int,∃ e : Nat,i = .int .i64 t/\t = (j : Int) - 1/\j <= a/\m / Qd.bb ^ j = n / Qd.bb ^ j/\wr = w.drewN e) (fun i _=>(intOf i + 1).toNat)
    case atStart=>exact ⟨a,(a : Int) - 1,0,rfl,rfl,Nat.le_refl _,by rw [Nat.div_eq_of_lt Hm0.out,Nat.div_eq_of_lt Hn0.out],rfl⟩
    case round =>
      obtain ⟨j,t,e0,rfl,ht,hj,hd,rfl⟩:=hrel
      have Hd:=Lib.hid hd;clear hd
      by_cases h0 : j = 0
      · subst h0
        have he : r = 0:=by
          have h3:=Hd.out
          simp at h3
          subst h3
          rw [<- Hr.out];simp
        subst he
        have d0 : decide ((0 : Int) <= t) = false:=by simp;omega
        go_wp2
        go_ret
        exact ⟨rfl,(by repeat' first | exact Below.refl _ _ | assumption | refine Below.setCell ?_ ?_ _ | refine Below.alloc ?_ ?_ _ | refine below_drewN ?_ | refine Below.drew ?_ | (simp;done) | (simp;omega))⟩
      · obtain ⟨i,rfl⟩ : ∃ i,j = i + 1:=⟨j - 1,by omega⟩
        have ht2 : t = (i : Int):=by omega
        clear ht
        subst ht2
        have h5:=Qd.lt_of_top (k:=i) Hd.out;have h6:=Qd.lt_of_top (k:=i) Hd.out.symm;have h7:=Qd.div_same (k:=i) Hd.out
        obtain ⟨g,rfl,_,hxs⟩:=Hx.out (by omega)
        obtain ⟨g2,rfl,_,hys⟩:=Hy.out (by omega)
        have c1:=hxs i (by omega)
        have c2:=hys i (by omega)
        obtain ⟨x,hxe⟩ : ∃ x,Qd.lim m i = x:=⟨_,rfl⟩
        obtain ⟨y,hye⟩ : ∃ y,Qd.lim n i = y:=⟨_,rfl⟩
        rw [hxe] at c1 h5 h6 h7;rw [hye] at c2 h5 h6 h7
        clear hxs hys hxe hye
        have H5:=Lib.hid h5;have H6:=Lib.hid h6;have H7:=Lib.hid h7
        clear h5 h6 h7
        rcases Nat.lt_trichotomy x y with h | h | h
        · have d2 : decide ((x : Int) < (y : Int)) = true:=by simp;omega
          have d2' : decide (x < y) = true:=by simp;omega
          have he : r = -1:=by rw [<- Hr.out,if_pos (H5.out h)]
          subst he
          go_wp2_with fail
          go_quiet (fail)
          go_wp2_with fail
          go_ret
          exact ⟨rfl,(by repeat' first | exact Below.refl _ _ | assumption | refine Below.setCell ?_ ?_ _ | refine Below.alloc ?_ ?_ _ | refine below_drewN ?_ | refine Below.drew ?_ | (simp;done) | (simp;omega))⟩
        · subst h
          have d2 : decide ((x : Int) < (x : Int)) = false:=by simp
          have Hnew:=Lib.hid (H7.out rfl)
          go_wp2_with fail
          go_quiet (fail)
          go_wp2_with fail
          go_quiet (fail)
          go_wp2_with fail
          go_roundw
          case rel=>exact ⟨i,(i : Int) - 1,_,by go_num,rfl,by omega,Hnew.out,rfl⟩
          case measure=>simp [intOf]
        · have d2 : decide ((x : Int) < (y : Int)) = false:=by simp;omega
          have d3 : decide ((y : Int) < (x : Int)) = true:=by simp;omega
          have d2' : decide (x < y) = false:=by simp;omega
          have d3' : decide (y < x) = true:=by simp;omega
          have he : r = 1:=by
            have:=H6.out h
            rw [<- Hr.out,if_neg (by omega),if_pos this]
          subst he
          go_wp2_with fail
          go_quiet (fail)
          go_wp2_with fail
          go_quiet (fail)
          go_wp2_with fail
          go_ret
          exact ⟨rfl,(by repeat' first | exact Below.refl _ _ | assumption | refine Below.setCell ?_ ?_ _ | refine Below.alloc ?_ ?_ _ | refine below_drewN ?_ | refine Below.drew ?_ | (simp;done) | (simp;omega))⟩
  · have d1 : ((a : Int) != (b : Int)) = true:=by simp;omega
    have d2 : decide (a < b) = false:=by simp;omega
    have h3:=hgt h
    rw [if_neg (by omega),if_pos h3] at hr
    subst hr
    clear Hr hlt hgt h
    go_enter Tryz.func149,Tryz.ntmps149
    go_wp2
    go_ret
    exact ⟨rfl,Below.refl _ _⟩
end
section
open Go.RowKit
open Qd (lims)
theorem limb_same {v : Value} {n : Nat} (hn : Qd.lsz n <= 10000) {w : World} (h : Mags w v n) (k : Nat) (hk : k <= 30000) (W : World) (hb : Below w.heap.size w W) :
    Calls Tryz.prog 152 #[v,.int .i64 k] W fun e w'=>e = .returned (.int .i64 ((Qd.lim n k : Nat) : Int))/\w' = W:=by
  have:=refLimb_any v _ k (by rw [Qd.lims_length];omega) (by omega) W (h.keep hb)
  rwa [Qd.lims_getD _ _ _ (Qd.lsz_lt n)] at this
theorem ownsRow_drewN {w : World} {base : Nat} {e : TypeId} {size : Nat} {v : Value} {n : Nat} {xs : List Value} (h : w.ownsRow base e size v n xs) (k : Nat) : (w.drewN k).ownsRow base e size v n xs:=ownsRow_below' h (below_drewN (Below.refl _ _))
set_option maxHeartbeats 4000000 in
set_option maxRecDepth 100000 in
theorem refMinusM_any (s t : Value) (m n : Nat) (hmn : n <= m) (h1 : Qd.lsz m <= 10000) (w : World) (hs : Mags w s m) (ht : Mags w t n) :
    Calls Tryz.prog 150 #[s,t] w fun e w'=>∃ v,e = .returned v/\Mags w' v (m - n)/\Below w.heap.size w w':=by
  obtain ⟨i0,hi,hz0,hz1,hz2⟩:=info_parts Tryz.info3
  have h2 : Qd.lsz n <= 10000:=Nat.le_trans (Qd.lsz_mono hmn) h1
  have Ct:=Lib.hid (limb_same h2 ht)
  obtain ⟨p,c,rfl,_,hx⟩:=hs.parts
  obtain ⟨q,d,rfl,_,_⟩:=ht.parts
  have hlt : m - n < Qd.bb ^ Qd.lsz m:=Nat.lt_of_le_of_lt (Nat.sub_le _ _) (Qd.lsz_lt m)
  obtain ⟨a,ha⟩ : ∃ a,Qd.lsz m = a:=⟨_,rfl⟩
  obtain ⟨b,hb⟩ : ∃ b,Qd.lsz n = b:=⟨_,rfl⟩
  rw [ha] at h1 hx hlt ⊢
  rw [hb] at h2 Ct ⊢
  have Hx:=Lib.hid hx;have Hlt:=Lib.hid hlt;have Hmn:=Lib.hid hmn
  clear hs ht ha hb hx hlt hmn
  go_enter Tryz.func150,Tryz.ntmps150
  go_wp2
  go_loopw [5,6,7] (fun v y i wr=>∃ k : Nat,k <= a/\i = .int .i64 k/\y = .int .i64 (Qd.bor m n k : Nat)/\wr.ownsRow w.heap.size 3 1 v k (limV (lims (m - n) k))/\Below w.heap.size w wr) (fun _ _ i _=>a - (intOf i).toNat)
  case atStart=>exact ⟨0,by omega,rfl,by rw [Qd.bor_zero];rfl,World.ownsRow_nil _ _ _ _,Below.refl _ _⟩
  case round =>
    obtain ⟨k,hk,rfl,rfl,hrow,hbl⟩:=hrel
    have Hrow:=Lib.hid hrow;have Hbl:=Lib.hid hbl
    have hbr:=hbl.size
    clear hrow hbl
    by_cases hlt : k < a
    · obtain ⟨g,rfl,hg,hxs⟩:=Hx.out (by omega)
      have c0:=(Hbl.out.cell (p:=⟨g,k,none⟩) hg).trans (hxs k hlt)
      have hx4:=Qd.lim_lt' m k;have hy4:=Qd.lim_lt' n k;have hc1:=Qd.bor_le m n k
      have hl:=Qd.lim_sub m n k Hmn.out;have hcs:=Qd.bor_succ m n k
      have hsucc:=limV_succ (m - n) k
      have ct:=Ct.out k (by omega)
      obtain ⟨x,hx⟩ : ∃ x,Qd.lim m k = x:=⟨_,rfl⟩
      obtain ⟨y,hy⟩ : ∃ y,Qd.lim n k = y:=⟨_,rfl⟩
      obtain ⟨z,hz⟩ : ∃ z,Qd.bor m n k = z:=⟨_,rfl⟩
      rw [hy] at ct
      rw [hx,hy,hz] at hl hcs
      rw [hx] at hx4 c0;rw [hy] at hy4;rw [hz] at hc1
      rw [hl] at hsucc
      rw [hz]
      have CT:=Lib.hid ct
      have Hs:=Lib.hid hsucc;have Hcs:=Lib.hid hcs
      have d1 : decide ((k : Int) < (a : Int)) = true:=by simp;omega
      clear hx hy hz hl hcs ct hsucc hxs
      by_cases hge : y + z <= x
      · have d2 : decide ((x : Int) - (y : Int) - (z : Int) < 0) = false:=by simp;omega
        go_wp2_with fail
        go_quiet ((go_at_call 152;exact Calls.quiet_of_same (CT.out _ (by first | exact Hbl.out | exact below_drewN Hbl.out))))
        have HOB:=Lib.hid (ownsRow_drewN Hrow.out nq)
        have hszn : (wr.drewN nq).heap.size = wr.heap.size:=rfl
        go_wp2_with (at_builtin;refine wpList_append_own _ rfl _ _ 72 rfl w.heap.size 3 i0 (.int .i64 0) 1 8 Tryz.underlying72 hi hz0 hz1 hz2 rfl (by decide) _ _ _ rfl (HOB.out.alloc _) ⟨wr.heap.size,0,none⟩ 1 1 [.int .i64 ((x : Int) - (y : Int) - (z : Int))] rfl rfl (one_new1 (wr.drewN nq) _ _) (by simp [Value.oneCell']) (by unfold maxLen;omega) (by omega) (by simp;omega) ?_;intro v' w3 hown' hgrow _;have HN:=Lib.hid (And.intro hown' hgrow);clear hown' hgrow)
        have hbig : Below w.heap.size w w3:=((below_drewN Hbl.out : Below w.heap.size w (wr.drewN nq)).alloc (by simp;omega) _).grown HN.out.2 (by simp;omega) (fun j hj=>(HOB.out.lt j hj).1)
        have hnew : w3.ownsRow w.heap.size 3 1 v' (k + 1) (limV (lims (m - n) (k + 1))):=by
          rw [Hs.out]
          have e : (((x + Qd.bb - y - z) % Qd.bb : Nat) : Int) = (x : Int) - (y : Int) - (z : Int):=by
            have hB : Qd.bb = 10000:=rfl
            rw [hB];omega
          rw [e];exact HN.out.1
        have Hnew:=Lib.hid hnew
        have Hbig:=Lib.hid hbig
        clear hbig hnew
        go_roundw
        case rel=>exact ⟨k + 1,by omega,by go_num,by rw [Hcs.out];have hB : Qd.bb = 10000:=rfl;rw [hB];have : 1 - (x + 10000 - y - z) / 10000 = 0:=(by omega);rw [this];rfl,Hnew.out,Hbig.out⟩
        case measure=>simp [intOf];omega
      · have d2 : decide ((x : Int) - (y : Int) - (z : Int) < 0) = true:=by simp;omega
        go_wp2_with fail
        go_quiet ((go_at_call 152;exact Calls.quiet_of_same (CT.out _ (by first | exact Hbl.out | exact below_drewN Hbl.out))))
        have HOB:=Lib.hid (ownsRow_drewN Hrow.out nq)
        have hszn : (wr.drewN nq).heap.size = wr.heap.size:=rfl
        go_wp2_with (at_builtin;refine wpList_append_own _ rfl _ _ 72 rfl w.heap.size 3 i0 (.int .i64 0) 1 8 Tryz.underlying72 hi hz0 hz1 hz2 rfl (by decide) _ _ _ rfl (HOB.out.alloc _) ⟨wr.heap.size,0,none⟩ 1 1 [.int .i64 ((x : Int) - (y : Int) - (z : Int) + 10000)] rfl rfl (one_new1 (wr.drewN nq) _ _) (by simp [Value.oneCell']) (by unfold maxLen;omega) (by omega) (by simp;omega) ?_;intro v' w3 hown' hgrow _;have HN:=Lib.hid (And.intro hown' hgrow);clear hown' hgrow)
        have hbig : Below w.heap.size w w3:=((below_drewN Hbl.out : Below w.heap.size w (wr.drewN nq)).alloc (by simp;omega) _).grown HN.out.2 (by simp;omega) (fun j hj=>(HOB.out.lt j hj).1)
        have hnew : w3.ownsRow w.heap.size 3 1 v' (k + 1) (limV (lims (m - n) (k + 1))):=by
          rw [Hs.out]
          have e : (((x + Qd.bb - y - z) % Qd.bb : Nat) : Int) = (x : Int) - (y : Int) - (z : Int) + 10000:=by
            have hB : Qd.bb = 10000:=rfl
            rw [hB];omega
          rw [e];exact HN.out.1
        have Hnew:=Lib.hid hnew
        have Hbig:=Lib.hid hbig
        clear hbig hnew
        go_roundw
        case rel=>exact ⟨k + 1,by omega,by go_num,by rw [Hcs.out];have hB : Qd.bb = 10000:=rfl;rw [hB];have : 1 - (x + 10000 - y - z) / 10000 = 1:=(by omega);rw [this];rfl,Hnew.out,Hbig.out⟩
        case measure=>simp [intOf];omega
    · have hka : k = a:=by omega
      subst hka
      have d1 : decide ((k : Int) < (k : Int)) = false:=by simp
      obtain ⟨p5,c5,rfl,_,_⟩:=(mg_of_row Hrow.out).parts
      have tr:=fun W (hb : Below wr.heap.size wr W)=>refTrim_any false _ (m - n) k (by omega) Hlt.out W ((mg_of_row Hrow.out).keep hb)
      have TR:=Lib.hid tr
      clear tr
      go_wp2_with (first | (with_reducible refine fd74 _ _ _ _ ⟨rfl,_,rfl,rfl⟩ ?_) | (go_at_call 144;(with_reducible refine (TR.out _ (Below.refl _ _)).mono ?_);rintro e w2 ⟨s',rfl,hms,hb2⟩;obtain ⟨p6,c6,rfl,_,_⟩:=hms.parts;have HMS:=Lib.hid hms;have HB2:=Lib.hid hb2;clear hms hb2))
      go_ret
      exact ⟨_,rfl,HMS.out,Hbl.out.trans (HB2.out.mono hbr)⟩
end
end Go.Proofs.YtpbegoflpfdajaaGreatDoor
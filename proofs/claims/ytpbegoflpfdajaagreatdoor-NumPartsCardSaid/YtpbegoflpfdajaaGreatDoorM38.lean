/- WHAT IS PROVED: contracts of functions of the numbers package and laws for them, used by the last text of this claim. CONDITIONS: stated at each theorem. -/
import Derived.BigQuiet
import Derived.Test.YtpbegoflpfdajaaGreatDoorM37
import Derived.Deep.QuietTactic
import Derived.Deep.RegionHeld3
namespace Go.Proofs.YtpbegoflpfdajaaGreatDoor
section
open Go.RowKit
open Qd (lims)
set_option maxHeartbeats 2000000 in
set_option maxRecDepth 100000 in
theorem refMag_any (s t : Value) (m n : Nat) (h1 : Qd.lsz m <= 10000) (h2 : Qd.lsz n <= 10000) (w : World) (hs : Mags w s m) (ht : Mags w t n) :
    Calls Tryz.prog 149 #[s,t] w fun e w'=>e = .returned (.int .i64 (cmpN m n))/\Below w.heap.size w w':=by
  obtain ⟨p,c,rfl,_,hx⟩:=hs.parts
  obtain ⟨q,d,rfl,_,hy⟩:=ht.parts
  have hlt : Qd.lsz m < Qd.lsz n->m < n:=fun h=>Nat.lt_of_not_le fun hl=>by have:=Qd.lsz_mono hl;omega
  have hgt : Qd.lsz n < Qd.lsz m->n < m:=fun h=>Nat.lt_of_not_le fun hl=>by have:=Qd.lsz_mono hl;omega
  have hm0:=Qd.lsz_lt m;have hn0:=Qd.lsz_lt n
  have hcm : ∀ x,(∀ z,cmpN m n = z->z = x)->cmpN m n = x:=fun x h=>h _ rfl
  obtain ⟨a,ha⟩ : ∃ a,Qd.lsz m = a:=⟨_,rfl⟩
  obtain ⟨b,hb⟩ : ∃ b,Qd.lsz n = b:=⟨_,rfl⟩
  rw [ha] at h1 hx hlt hgt hm0 ⊢
  rw [hb] at h2 hy hlt hgt hn0 ⊢
  obtain ⟨r,hr⟩ : ∃ r,cmpN m n = r:=⟨_,rfl⟩
  rw [hr]
  unfold cmpN at hr
  clear hs ht ha hb hcm
  have Hx:=Lib.hid hx;have Hy:=Lib.hid hy;have Hr:=Lib.hid hr
  clear hx hy
  rcases Nat.lt_trichotomy a b with h | h | h
  · have d1 : ((a : Int) != (b : Int)) = true:=by simp;omega
    have d2 : decide (a < b) = true:=by simp;omega
    rw [if_pos (hlt h)] at hr
    subst hr
    clear Hr hlt hgt h
    go_enter Tryz.func149,Tryz.ntmps149
    go_wp2
    go_ret
    exact ⟨rfl,Below.refl _ _⟩
  · subst h
    have Hm0:=Lib.hid hm0;have Hn0:=Lib.hid hn0
    have d1 : ((a : Int) != (a : Int)) = false:=by simp
    clear hr hlt hgt hm0 hn0
    go_enter Tryz.func149,Tryz.ntmps149
    go_wp2
    go_loopw [5] (fun i wr=>∃ j : Nat,∃ t : Int,∃ e : Nat,i = .int .i64 t/\t = (j : Int) - 1/\j <= a/\m / Qd.bb ^ j = n / Qd.bb ^ j/\wr = w.drewN e) (fun i _=>(intOf i + 1).toNat)
    case atStart=>exact ⟨a,(a : Int) - 1,0,rfl,rfl,Nat.le_refl _,by rw [Nat.div_eq_of_lt Hm0.out,Nat.div_eq_of_lt Hn0.out],rfl⟩
    case round =>
      obtain ⟨j,t,e0,rfl,ht,hj,hd,rfl⟩:=hrel
      have Hd:=Lib.hid hd;clear hd
      by_cases h0 : j = 0
      · subst h0
        have he : r = 0:=by
          have h3:=Hd.out
          simp at h3
          subst h3
          rw [<- Hr.out];simp
        subst he
        have d0 : decide ((0 : Int) <= t) = false:=by simp;omega
        go_wp2
        go_ret
        exact ⟨rfl,(by repeat' first | exact Below.refl _ _ | assumption | refine Below.setCell ?_ ?_ _ | refine Below.alloc ?_ ?_ _ | refine below_drewN ?_ | refine Below.drew ?_ | (simp;done) | (simp;omega))⟩
      · obtain ⟨i,rfl⟩ : ∃ i,j = i + 1:=⟨j - 1,by omega⟩
        have ht2 : t = (i : Int):=by omega
        clear ht
        subst ht2
        have h5:=Qd.lt_of_top (k:=i) Hd.out;have h6:=Qd.lt_of_top (k:=i) Hd.out.symm;have h7:=Qd.div_same (k:=i) Hd.out
        obtain ⟨g,rfl,_,hxs⟩:=Hx.out (by omega)
        obtain ⟨g2,rfl,_,hys⟩:=Hy.out (by omega)
        have c1:=hxs i (by omega)
        have c2:=hys i (by omega)
        obtain ⟨x,hxe⟩ : ∃ x,Qd.lim m i = x:=⟨_,rfl⟩
        obtain ⟨y,hye⟩ : ∃ y,Qd.lim n i = y:=⟨_,rfl⟩
        rw [hxe] at c1 h5 h6 h7;rw [hye] at c2 h5 h6 h7
        clear hxs hys hxe hye
        have H5:=Lib.hid h5;have H6:=Lib.hid h6;have H7:=Lib.hid h7
        clear h5 h6 h7
        rcases Nat.lt_trichotomy x y with h | h | h
        · have d2 : decide ((x : Int) < (y : Int)) = true:=by simp;omega
          have d2' : decide (x < y) = true:=by simp;omega
          have he : r = -1:=by rw [<- Hr.out,if_pos (H5.out h)]
          subst he
          go_wp2_with fail
          go_quiet (fail)
          go_wp2_with fail
          go_ret
          exact ⟨rfl,(by repeat' first | exact Below.refl _ _ | assumption | refine Below.setCell ?_ ?_ _ | refine Below.alloc ?_ ?_ _ | refine below_drewN ?_ | refine Below.drew ?_ | (simp;done) | (simp;omega))⟩
        · subst h
          have d2 : decide ((x : Int) < (x : Int)) = false:=by simp
          have Hnew:=Lib.hid (H7.out rfl)
          go_wp2_with fail
          go_quiet (fail)
          go_wp2_with fail
          go_quiet (fail)
          go_wp2_with fail
          go_roundw
          case rel=>exact ⟨i,(i : Int) - 1,_,by go_num,rfl,by omega,Hnew.out,rfl⟩
          case measure=>simp [intOf]
        · have d2 : decide ((x : Int) < (y : Int)) = false:=by simp;omega
          have d3 : decide ((y : Int) < (x : Int)) = true:=by simp;omega
          have d2' : decide (x < y) = false:=by simp;omega
          have d3' : decide (y < x) = true:=by simp;omega
          have he : r = 1:=by
            have:=H6.out h
            rw [<- Hr.out,if_neg (by omega),if_pos this]
          subst he
          go_wp2_with fail
          go_quiet (fail)
          go_wp2_with fail
          go_quiet (fail)
          go_wp2_with fail
          go_ret
          exact ⟨rfl,(by repeat' first | exact Below.refl _ _ | assumption | refine Below.setCell ?_ ?_ _ | refine Below.alloc ?_ ?_ _ | refine below_drewN ?_ | refine Below.drew ?_ | (simp;done) | (simp;omega))⟩
  · have d1 : ((a : Int) != (b : Int)) = true:=by simp;omega
    have d2 : decide (a < b) = false:=by simp;omega
    have h3:=hgt h
    rw [if_neg (by omega),if_pos h3] at hr
    subst hr
    clear Hr hlt hgt h
    go_enter Tryz.func149,Tryz.ntmps149
    go_wp2
    go_ret
    exact ⟨rfl,Below.refl _ _⟩
end
section
open Go.RowKit
open Qd (lims)
theorem limb_same {v : Value} {n : Nat} (hn : Qd.lsz n <= 10000) {w : World} (h : Mags w v n) (k : Nat) (hk : k <= 30000) (W : World) (hb : Below w.heap.size w W) :
    Calls Tryz.prog 152 #[v,.int .i64 k] W fun e w'=>e = .returned (.int .i64 ((Qd.lim n k : Nat) : Int))/\w' = W:=by
  have:=refLimb_any v _ k (by rw [Qd.lims_length];omega) (by omega) W (h.keep hb)
  rwa [Qd.lims_getD _ _ _ (Qd.lsz_lt n)] at this
theorem ownsRow_drewN {w : World} {base : Nat} {e : TypeId} {size : Nat} {v : Value} {n : Nat} {xs : List Value} (h : w.ownsRow base e size v n xs) (k : Nat) : (w.drewN k).ownsRow base e size v n xs:=ownsRow_below' h (below_drewN (Below.refl _ _))
set_option maxHeartbeats 4000000 in
set_option maxRecDepth 100000 in
theorem refMinusM_any (s t : Value) (m n : Nat) (hmn : n <= m) (h1 : Qd.lsz m <= 10000) (w : World) (hs : Mags w s m) (ht : Mags w t n) :
    Calls Tryz.prog 150 #[s,t] w fun e w'=>∃ v,e = .returned v/\Mags w' v (m - n)/\Below w.heap.size w w':=by
  obtain ⟨i0,hi,hz0,hz1,hz2⟩:=info_parts Tryz.info3
  have h2 : Qd.lsz n <= 10000:=Nat.le_trans (Qd.lsz_mono hmn) h1
  have Ct:=Lib.hid (limb_same h2 ht)
  obtain ⟨p,c,rfl,_,hx⟩:=hs.parts
  obtain ⟨q,d,rfl,_,_⟩:=ht.parts
  have hlt : m - n < Qd.bb ^ Qd.lsz m:=Nat.lt_of_le_of_lt (Nat.sub_le _ _) (Qd.lsz_lt m)
  obtain ⟨a,ha⟩ : ∃ a,Qd.lsz m = a:=⟨_,rfl⟩
  obtain ⟨b,hb⟩ : ∃ b,Qd.lsz n = b:=⟨_,rfl⟩
  rw [ha] at h1 hx hlt ⊢
  rw [hb] at h2 Ct ⊢
  have Hx:=Lib.hid hx;have Hlt:=Lib.hid hlt;have Hmn:=Lib.hid hmn
  clear hs ht ha hb hx hlt hmn
  go_enter Tryz.func150,Tryz.ntmps150
  go_wp2
  go_loopw [5,6,7] (fun v y i wr=>∃ k : Nat,k <= a/\i = .int .i64 k/\y = .int .i64 (Qd.bor m n k : Nat)/\wr.ownsRow w.heap.size 3 1 v k (limV (lims (m - n) k))/\Below w.heap.size w wr) (fun _ _ i _=>a - (intOf i).toNat)
  case atStart=>exact ⟨0,by omega,rfl,by rw [Qd.bor_zero];rfl,World.ownsRow_nil _ _ _ _,Below.refl _ _⟩
  case round =>
    obtain ⟨k,hk,rfl,rfl,hrow,hbl⟩:=hrel
    have Hrow:=Lib.hid hrow;have Hbl:=Lib.hid hbl
    have hbr:=hbl.size
    clear hrow hbl
    by_cases hlt : k < a
    · obtain ⟨g,rfl,hg,hxs⟩:=Hx.out (by omega)
      have c0:=(Hbl.out.cell (p:=⟨g,k,none⟩) hg).trans (hxs k hlt)
      have hx4:=Qd.lim_lt' m k;have hy4:=Qd.lim_lt' n k;have hc1:=Qd.bor_le m n k
      have hl:=Qd.lim_sub m n k Hmn.out;have hcs:=Qd.bor_succ m n k
      have hsucc:=limV_succ (m - n) k
      have ct:=Ct.out k (by omega)
      obtain ⟨x,hx⟩ : ∃ x,Qd.lim m k = x:=⟨_,rfl⟩
      obtain ⟨y,hy⟩ : ∃ y,Qd.lim n k = y:=⟨_,rfl⟩
      obtain ⟨z,hz⟩ : ∃ z,Qd.bor m n k = z:=⟨_,rfl⟩
      rw [hy] at ct
      rw [hx,hy,hz] at hl hcs
      rw [hx] at hx4 c0;rw [hy] at hy4;rw [hz] at hc1
      rw [hl] at hsucc
      rw [hz]
      have CT:=Lib.hid ct
      have Hs:=Lib.hid hsucc;have Hcs:=Lib.hid hcs
      have d1 : decide ((k : Int) < (a : Int)) = true:=by simp;omega
      clear hx hy hz hl hcs ct hsucc hxs
      by_cases hge : y + z <= x
      · have d2 : decide ((x : Int) - (y : Int) - (z : Int) < 0) = false:=by simp;omega
        go_wp2_with fail
        go_quiet ((go_at_call 152;exact Calls.quiet_of_same (CT.out _ (by first | exact Hbl.out | exact below_drewN Hbl.out))))
        have HOB:=Lib.hid (ownsRow_drewN Hrow.out nq)
        have hszn : (wr.drewN nq).heap.size = wr.heap.size:=rfl
        go_wp2_with (at_builtin;refine wpList_append_own _ rfl _ _ 72 rfl w.heap.size 3 i0 (.int .i64 0) 1 8 Tryz.underlying72 hi hz0 hz1 hz2 rfl (by decide) _ _ _ rfl (HOB.out.alloc _) ⟨wr.heap.size,0,none⟩ 1 1 [.int .i64 ((x : Int) - (y : Int) - (z : Int))] rfl rfl (one_new1 (wr.drewN nq) _ _) (by simp [Value.oneCell']) (by unfold maxLen;omega) (by omega) (by simp;omega) ?_;intro v' w3 hown' hgrow _;have HN:=Lib.hid (And.intro hown' hgrow);clear hown' hgrow)
        have hbig : Below w.heap.size w w3:=((below_drewN Hbl.out : Below w.heap.size w (wr.drewN nq)).alloc (by simp;omega) _).grown HN.out.2 (by simp;omega) (fun j hj=>(HOB.out.lt j hj).1)
        have hnew : w3.ownsRow w.heap.size 3 1 v' (k + 1) (limV (lims (m - n) (k + 1))):=by
          rw [Hs.out]
          have e : (((x + Qd.bb - y - z) % Qd.bb : Nat) : Int) = (x : Int) - (y : Int) - (z : Int):=by
            have hB : Qd.bb = 10000:=rfl
            rw [hB];omega
          rw [e];exact HN.out.1
        have Hnew:=Lib.hid hnew
        have Hbig:=Lib.hid hbig
        clear hbig hnew
        go_roundw
        case rel=>exact ⟨k + 1,by omega,by go_num,by rw [Hcs.out];have hB : Qd.bb = 10000:=rfl;rw [hB];have : 1 - (x + 10000 - y - z) / 10000 = 0:=(by omega);rw [this];rfl,Hnew.out,Hbig.out⟩
        case measure=>simp [intOf];omega
      · have d2 : decide ((x : Int) - (y : Int) - (z : Int) < 0) = true:=by simp;omega
        go_wp2_with fail
        go_quiet ((go_at_call 152;exact Calls.quiet_of_same (CT.out _ (by first | exact Hbl.out | exact below_drewN Hbl.out))))
        have HOB:=Lib.hid (ownsRow_drewN Hrow.out nq)
        have hszn : (wr.drewN nq).heap.size = wr.heap.size:=rfl
        go_wp2_with (at_builtin;refine wpList_append_own _ rfl _ _ 72 rfl w.heap.size 3 i0 (.int .i64 0) 1 8 Tryz.underlying72 hi hz0 hz1 hz2 rfl (by decide) _ _ _ rfl (HOB.out.alloc _) ⟨wr.heap.size,0,none⟩ 1 1 [.int .i64 ((x : Int) - (y : Int) - (z : Int) + 10000)] rfl rfl (one_new1 (wr.drewN nq) _ _) (by simp [Value.oneCell']) (by unfold maxLen;omega) (by omega) (by simp;omega) ?_;intro v' w3 hown' hgrow _;have HN:=Lib.hid (And.intro hown' hgrow);clear hown' hgrow)
        have hbig : Below w.heap.size w w3:=((below_drewN Hbl.out : Below w.heap.size w (wr.drewN nq)).alloc (by simp;omega) _).grown HN.out.2 (by simp;omega) (fun j hj=>(HOB.out.lt j hj).1)
        have hnew : w3.ownsRow w.heap.size 3 1 v' (k + 1) (limV (lims (m - n) (k + 1))):=by
          rw [Hs.out]
          have e : (((x + Qd.bb - y - z) % Qd.bb : Nat) : Int) = (x : Int) - (y : Int) - (z : Int) + 10000:=by
            have hB : Qd.bb = 10000:=rfl
            rw [hB];omega
          rw [e];exact HN.out.1
        have Hnew:=Lib.hid hnew
        have Hbig:=Lib.hid hbig
        clear hbig hnew
        go_roundw
        case rel=>exact ⟨k + 1,by omega,by go_num,by rw [Hcs.out];have hB : Qd.bb = 10000:=rfl;rw [hB];have : 1 - (x + 10000 - y - z) / 10000 = 1:=(by omega);rw [this];rfl,Hnew.out,Hbig.out⟩
        case measure=>simp [intOf];omega
    · have hka : k = a:=by omega
      subst hka
      have d1 : decide ((k : Int) < (k : Int)) = false:=by simp
      obtain ⟨p5,c5,rfl,_,_⟩:=(mg_of_row Hrow.out).parts
      have tr:=fun W (hb : Below wr.heap.size wr W)=>refTrim_any false _ (m - n) k (by omega) Hlt.out W ((mg_of_row Hrow.out).keep hb)
      have TR:=Lib.hid tr
      clear tr
      go_wp2_with (first | (with_reducible refine fd74 _ _ _ _ ⟨rfl,_,rfl,rfl⟩ ?_) | (go_at_call 144;(with_reducible refine (TR.out _ (Below.refl _ _)).mono ?_);rintro e w2 ⟨s',rfl,hms,hb2⟩;obtain ⟨p6,c6,rfl,_,_⟩:=hms.parts;have HMS:=Lib.hid hms;have HB2:=Lib.hid hb2;clear hms hb2))
      go_ret
      exact ⟨_,rfl,HMS.out,Hbl.out.trans (HB2.out.mono hbr)⟩
end
section
open Go.RowKit
open Qd (lims)
theorem frozen_kept {w w' : World} {p : Addr} {b : Bool} (h : w.frozen? p = b) (hb : Below w.heap.size w w') (hp : p.block < w.heap.size) : w'.frozen? p = b:=(hb.frozen hp).trans h
theorem cell_set {w : World} {p a : Addr} {u v : Value} (h : w.cell? p = some v) (hne : p.block ≠ a.block) : (w.setCell a u).cell? p = some v:=(World.cell?_of_block (w:=w) (Below.heap_setCell w a u p.block hne)).trans h
theorem cell_kept {w w' : World} {p : Addr} {v : Value} (h : w.cell? p = some v) (hb : Below w.heap.size w w') : w'.cell? p = some v:=cell_keep h hb
theorem cells3 (w : World) (x0 x1 y0 y1 z0 z1 : Value) (t1 t2 t3 : TypeId) : ((((w.alloc (.cells #[x0,x1] t1)).alloc (.cells #[y0,y1] t2)).alloc (.cells #[z0,z1] t3)).cell? ⟨w.heap.size,0,none⟩ = some x0/\(((w.alloc (.cells #[x0,x1] t1)).alloc (.cells #[y0,y1] t2)).alloc (.cells #[z0,z1] t3)).cell? ⟨w.heap.size,1,none⟩ = some x1) /\
    ((((w.alloc (.cells #[x0,x1] t1)).alloc (.cells #[y0,y1] t2)).alloc (.cells #[z0,z1] t3)).cell? ⟨w.heap.size + 1,0,none⟩ = some y0/\(((w.alloc (.cells #[x0,x1] t1)).alloc (.cells #[y0,y1] t2)).alloc (.cells #[z0,z1] t3)).cell? ⟨w.heap.size + 1,1,none⟩ = some y1) /\
    ((((w.alloc (.cells #[x0,x1] t1)).alloc (.cells #[y0,y1] t2)).alloc (.cells #[z0,z1] t3)).cell? ⟨w.heap.size + 1 + 1,0,none⟩ = some z0/\(((w.alloc (.cells #[x0,x1] t1)).alloc (.cells #[y0,y1] t2)).alloc (.cells #[z0,z1] t3)).cell? ⟨w.heap.size + 1 + 1,1,none⟩ = some z1) /\
    ((((w.alloc (.cells #[x0,x1] t1)).alloc (.cells #[y0,y1] t2)).alloc (.cells #[z0,z1] t3)).frozen? ⟨w.heap.size + 1 + 1,0,none⟩ = false/\(((w.alloc (.cells #[x0,x1] t1)).alloc (.cells #[y0,y1] t2)).alloc (.cells #[z0,z1] t3)).frozen? ⟨w.heap.size + 1 + 1,1,none⟩ = false):=by
  refine ⟨⟨?_,?_⟩,⟨?_,?_⟩,⟨?_,?_⟩,?_,?_⟩ <;> go_simp
theorem Mg.set2 {w : World} {v : Value} {l : List Nat} {b : Nat} {x : Bool} (h : Mg w v l) (hc : w.cell? ⟨b,0,none⟩ = some (.bool x)) (u0 u1 : Value) : Mg ((w.setCell ⟨b,0,none⟩ u0).setCell ⟨b,1,none⟩ u1) v l:=by
  obtain ⟨p,c,rfl,h0,h1⟩:=h
  refine ⟨p,c,rfl,h0,fun hl=>?_⟩
  obtain ⟨g,rfl,hg,hx⟩:=h1 hl
  have hpos : 0 < l.length:=by cases l with
    | nil=>exact absurd rfl hl
    | cons a t=>simp
  have hne : g ≠ b:=by
    intro e;subst e
    have:=hx 0 hpos
    rw [hc] at this
    injection this with this
    injection this
  exact ⟨g,rfl,by simpa using hg,fun i hi=>cell_set (cell_set (hx i hi) hne) hne⟩
set_option maxHeartbeats 4000000 in
set_option maxRecDepth 100000 in
theorem refPlus_same (b : Bool) (s t : Value) (m n : Nat) (h1 : Qd.lsz m <= 10000) (h2 : Qd.lsz n <= 10000) (w : World) (hs : Mags w s m) (ht : Mags w t n) :
    Calls Tryz.prog 80 #[.agg #[.bool b,s],.agg #[.bool b,t]] w fun e w'=>∃ v,e = .returned (.agg #[.bool (b && !decide (m + n = 0)),v])/\Mags w' v (m + n)/\Below w.heap.size w w':=by
  have hlt : Qd.lsz (m + n) <= 10001:=Qd.lsz_add_le (k:=10000) h1 h2
  have C1:=Lib.hid (fun W (hb : Below w.heap.size w W)=>refPlusM_any s t m n h1 h2 W (hs.keep hb) (ht.keep hb))
  have C2:=Lib.hid (fun W v (hm : Mags W v (m + n))=>refTrim_any b v (m + n) _ (by omega) (Qd.lsz_lt _) W hm)
  obtain ⟨z,hz⟩ : ∃ z,(b && !decide (m + n = 0)) = z:=⟨_,rfl⟩
  obtain ⟨u,hu⟩ : ∃ u,m + n = u:=⟨_,rfl⟩
  obtain ⟨p,c1,rfl,_,_⟩:=hs.parts
  obtain ⟨q,d1,rfl,_,_⟩:=ht.parts
  rw [hz] at C2 ⊢
  rw [hu] at C1 C2 ⊢
  obtain ⟨a1,ha1⟩ : ∃ a,Qd.lsz m = a:=⟨_,rfl⟩
  obtain ⟨a2,ha2⟩ : ∃ a,Qd.lsz n = a:=⟨_,rfl⟩
  rw [ha1,ha2] at C1 ⊢
  clear hs ht hz h1 h2 ha1 ha2 hlt hu
  obtain ⟨⟨k00,k01⟩,⟨k10,k11⟩,⟨k20,k21⟩,kf0,kf1⟩:=cells3 w (.bool b) (.slice p a1 c1) (.bool b) (.slice q a2 d1) (.bool false) (.slice none 0 0) 74 74 74
  go_enter Tryz.func80,Tryz.ntmps80
  have hlt0 : w.heap.size < w.heap.size + 1:=by omega
  go_wp2_with fail
  go_region_held3 (fun w'=>w'.cell? ⟨w.heap.size,0,none⟩ = some (.bool b)/\w'.cell? ⟨w.heap.size,1,none⟩ = some (.slice p a1 c1)/\w'.cell? ⟨w.heap.size + 1,1,none⟩ = some (.slice q a2 d1)) (first | exact ⟨k00,k01,k11⟩ | exact ⟨hx000,hx010,hx110⟩ | exact ⟨hx001,hx011,hx111⟩ | exact ⟨cell_set (cell_set hx001 (by first | (simp;done) | (simp;omega))) (by first | (simp;done) | (simp;omega)),cell_set (cell_set hx011 (by first | (simp;done) | (simp;omega))) (by first | (simp;done) | (simp;omega)),cell_set (cell_set hx111 (by first | (simp;done) | (simp;omega))) (by first | (simp;done) | (simp;omega))⟩ | go_keep)
    (first
      | (go_at_call 148;(with_reducible refine (C1.out _ (by repeat' first | exact Below.refl _ _ | assumption | refine Below.setCell ?_ ?_ _ | refine Below.alloc ?_ ?_ _ | refine below_drewN ?_ | refine Below.drew ?_ | (simp;done) | (simp;omega))).mono ?_);rintro e w2 ⟨v,rfl,hm2,hbn0⟩;obtain ⟨p2,c2,rfl,_,_⟩:=hm2.parts;have hlow:=Below.trans (a:=w) (B:=w.heap.size) (by repeat' first | exact Below.refl _ _ | assumption | refine Below.setCell ?_ ?_ _ | refine Below.alloc ?_ ?_ _ | refine below_drewN ?_ | refine Below.drew ?_ | (simp;done) | (simp;omega)) (Below.mono hbn0 (Below.size (B:=w.heap.size) (w:=w) (by repeat' first | exact Below.refl _ _ | assumption | refine Below.setCell ?_ ?_ _ | refine Below.alloc ?_ ?_ _ | refine below_drewN ?_ | refine Below.drew ?_ | (simp;done) | (simp;omega))));have hx000:=cell_kept (p:=⟨w.heap.size,0,none⟩) (v:=.bool b) (by exact k00) hbn0;have hx010:=cell_kept (p:=⟨w.heap.size,1,none⟩) (v:=.slice p a1 c1) (by exact k01) hbn0;have hx110:=cell_kept (p:=⟨w.heap.size + 1,1,none⟩) (v:=.slice q a2 d1) (by exact k11) hbn0;have hs0:=hbn0.size;have hzc00:=cell_kept (p:=⟨w.heap.size + 1 + 1,0,none⟩) (v:=.bool false) (by exact k20) hbn0;have hzc10:=cell_kept (p:=⟨w.heap.size + 1 + 1,1,none⟩) (v:=.slice none 0 0) (by exact k21) hbn0;have hzf00:=frozen_kept (p:=⟨w.heap.size + 1 + 1,0,none⟩) (b:=false) (by exact kf0) hbn0 (by have hlt:=hlt0;simp at hlt ⊢;try omega);have hzf10:=frozen_kept (p:=⟨w.heap.size + 1 + 1,1,none⟩) (b:=false) (by exact kf1) hbn0 (by have hlt:=hlt0;simp at hlt ⊢;try omega))
      | (go_at_call 144;(with_reducible refine (C2.out _ _ hm2).mono ?_);rintro e w3 ⟨v,rfl,hm3,hbn1⟩;obtain ⟨p3,c3,rfl,_,_⟩:=hm3.parts;have hlow3:=Below.trans hlow (Below.mono hbn1 (Below.size hlow));have hx001:=cell_kept (p:=⟨w.heap.size,0,none⟩) (v:=.bool b) hx000 hbn1;have hx011:=cell_kept (p:=⟨w.heap.size,1,none⟩) (v:=.slice p a1 c1) hx010 hbn1;have hx111:=cell_kept (p:=⟨w.heap.size + 1,1,none⟩) (v:=.slice q a2 d1) hx110 hbn1;have hs1:=hbn1.size;have hzc01:=cell_kept (p:=⟨w.heap.size + 1 + 1,0,none⟩) (v:=.bool false) hzc00 hbn1;have hzc11:=cell_kept (p:=⟨w.heap.size + 1 + 1,1,none⟩) (v:=.slice none 0 0) hzc10 hbn1;have hzf01:=frozen_kept (p:=⟨w.heap.size + 1 + 1,0,none⟩) (b:=false) hzf00 hbn1 (by have hlt:=hlt0;simp at hs0 hlt ⊢;omega);have hzf11:=frozen_kept (p:=⟨w.heap.size + 1 + 1,1,none⟩) (b:=false) hzf10 hbn1 (by have hlt:=hlt0;simp at hs0 hlt ⊢;omega)))
  go_wp2_with fail
  refine ret74 Tryz.results80 _ rfl (.bool z) (.slice p3 (Qd.lsz u) c3) (by go_simp) (by go_simp) rfl ?_
  exact ⟨_,rfl,Mg.set2 hm3 hzc01 _ _,(by repeat' first | exact Below.refl _ _ | assumption | refine Below.setCell ?_ ?_ _ | refine Below.alloc ?_ ?_ _ | refine below_drewN ?_ | refine Below.drew ?_ | (simp;done) | (simp;omega))⟩
set_option maxHeartbeats 4000000 in
set_option maxRecDepth 100000 in
theorem refPlus_ge (b c : Bool) (s t : Value) (m n : Nat) (hbc : (b == c) = false) (hmn : n <= m) (h1 : Qd.lsz m <= 10000) (h2 : Qd.lsz n <= 10000) (w : World) (hs : Mags w s m) (ht : Mags w t n) :
    Calls Tryz.prog 80 #[.agg #[.bool b,s],.agg #[.bool c,t]] w fun e w'=>∃ v,e = .returned (.agg #[.bool (b && !decide (m - n = 0)),v])/\Mags w' v (m - n)/\Below w.heap.size w w':=by
  have hlt : Qd.lsz (m - n) <= 10001:=Nat.le_trans (Qd.lsz_mono (Nat.sub_le m n)) (Nat.le_trans h1 (by decide))
  have C1:=Lib.hid (fun W (hb : Below w.heap.size w W)=>refMinusM_any s t m n hmn h1 W (hs.keep hb) (ht.keep hb))
  have C2:=Lib.hid (fun W v (hm : Mags W v (m - n))=>refTrim_any b v (m - n) _ (by omega) (Qd.lsz_lt _) W hm)
  have C0:=Lib.hid (fun W (hb : Below w.heap.size w W)=>refMag_any s t m n h1 h2 W (hs.keep hb) (ht.keep hb))
  have hr : decide ((0 : Int) <= cmpN m n) = true:=by unfold cmpN;rw [if_neg (by omega)];split <;> rfl
  obtain ⟨z,hz⟩ : ∃ z,(b && !decide (m - n = 0)) = z:=⟨_,rfl⟩
  obtain ⟨u,hu⟩ : ∃ u,m - n = u:=⟨_,rfl⟩
  obtain ⟨p,c1,rfl,_,_⟩:=hs.parts
  obtain ⟨q,d1,rfl,_,_⟩:=ht.parts
  rw [hz] at C2 ⊢
  rw [hu] at C1 C2 ⊢
  obtain ⟨a1,ha1⟩ : ∃ a,Qd.lsz m = a:=⟨_,rfl⟩
  obtain ⟨a2,ha2⟩ : ∃ a,Qd.lsz n = a:=⟨_,rfl⟩
  obtain ⟨r,hr0⟩ : ∃ r,cmpN m n = r:=⟨_,rfl⟩
  rw [hr0] at C0 hr
  rw [ha1,ha2] at C0 C1 ⊢
  clear hr0 hmn
  clear hs ht hz h1 h2 ha1 ha2 hlt hu
  obtain ⟨⟨k00,k01⟩,⟨k10,k11⟩,⟨k20,k21⟩,kf0,kf1⟩:=cells3 w (.bool b) (.slice p a1 c1) (.bool c) (.slice q a2 d1) (.bool false) (.slice none 0 0) 74 74 74
  go_enter Tryz.func80,Tryz.ntmps80
  go_wp2_with (go_at_call 149;(with_reducible refine (C0.out _ (by repeat' first | exact Below.refl _ _ | assumption | refine Below.setCell ?_ ?_ _ | refine Below.alloc ?_ ?_ _ | refine below_drewN ?_ | refine Below.drew ?_ | (simp;done) | (simp;omega))).mono ?_);rintro e w1 ⟨rfl,hb1⟩;have j00:=cell_kept k00 hb1;have j01:=cell_kept k01 hb1;have j10:=cell_kept k10 hb1;have j11:=cell_kept k11 hb1;have j20:=cell_kept k20 hb1;have j21:=cell_kept k21 hb1;have jf0:=frozen_kept kf0 hb1 (by simp);have jf1:=frozen_kept kf1 hb1 (by simp);have hlt0:=hb1.size;have HB1:=Lib.hid hb1;clear hb1)
  have hw1 : Below w.heap.size w w1:=Below.trans (by repeat' first | exact Below.refl _ _ | assumption | refine Below.setCell ?_ ?_ _ | refine Below.alloc ?_ ?_ _ | refine below_drewN ?_ | refine Below.drew ?_ | (simp;done) | (simp;omega)) (HB1.out.mono (by simp;omega))
  go_region_held3 (fun w'=>w'.cell? ⟨w.heap.size,0,none⟩ = some (.bool b)/\w'.cell? ⟨w.heap.size,1,none⟩ = some (.slice p a1 c1)/\w'.cell? ⟨w.heap.size + 1,1,none⟩ = some (.slice q a2 d1)) (first | exact ⟨j00,j01,j11⟩ | exact ⟨hx000,hx010,hx110⟩ | exact ⟨hx001,hx011,hx111⟩ | exact ⟨cell_set (cell_set hx001 (by first | (simp;done) | (simp;omega))) (by first | (simp;done) | (simp;omega)),cell_set (cell_set hx011 (by first | (simp;done) | (simp;omega))) (by first | (simp;done) | (simp;omega)),cell_set (cell_set hx111 (by first | (simp;done) | (simp;omega))) (by first | (simp;done) | (simp;omega))⟩ | go_keep)
    (first
      | (go_at_call 150;(with_reducible refine (C1.out _ (by repeat' first | exact Below.refl _ _ | assumption | refine Below.setCell ?_ ?_ _ | refine Below.alloc ?_ ?_ _ | refine below_drewN ?_ | refine Below.drew ?_ | (simp;done) | (simp;omega))).mono ?_);rintro e w2 ⟨v,rfl,hm2,hbn0⟩;obtain ⟨p2,c2,rfl,_,_⟩:=hm2.parts;have hlow:=Below.trans (a:=w) (B:=w.heap.size) (by repeat' first | exact Below.refl _ _ | assumption | refine Below.setCell ?_ ?_ _ | refine Below.alloc ?_ ?_ _ | refine below_drewN ?_ | refine Below.drew ?_ | (simp;done) | (simp;omega)) (Below.mono hbn0 (Below.size (B:=w.heap.size) (w:=w) (by repeat' first | exact Below.refl _ _ | assumption | refine Below.setCell ?_ ?_ _ | refine Below.alloc ?_ ?_ _ | refine below_drewN ?_ | refine Below.drew ?_ | (simp;done) | (simp;omega))));have hx000:=cell_kept (p:=⟨w.heap.size,0,none⟩) (v:=.bool b) (by exact j00) hbn0;have hx010:=cell_kept (p:=⟨w.heap.size,1,none⟩) (v:=.slice p a1 c1) (by exact j01) hbn0;have hx110:=cell_kept (p:=⟨w.heap.size + 1,1,none⟩) (v:=.slice q a2 d1) (by exact j11) hbn0;have hs0:=hbn0.size;have hzc00:=cell_kept (p:=⟨w.heap.size + 1 + 1,0,none⟩) (v:=.bool false) (by exact j20) hbn0;have hzc10:=cell_kept (p:=⟨w.heap.size + 1 + 1,1,none⟩) (v:=.slice none 0 0) (by exact j21) hbn0;have hzf00:=frozen_kept (p:=⟨w.heap.size + 1 + 1,0,none⟩) (b:=false) (by exact jf0) hbn0 (by have hlt:=hlt0;simp at hlt ⊢;try omega);have hzf10:=frozen_kept (p:=⟨w.heap.size + 1 + 1,1,none⟩) (b:=false) (by exact jf1) hbn0 (by have hlt:=hlt0;simp at hlt ⊢;try omega))
      | (go_at_call 144;(with_reducible refine (C2.out _ _ hm2).mono ?_);rintro e w3 ⟨v,rfl,hm3,hbn1⟩;obtain ⟨p3,c3,rfl,_,_⟩:=hm3.parts;have hlow3:=Below.trans hlow (Below.mono hbn1 (Below.size hlow));have hx001:=cell_kept (p:=⟨w.heap.size,0,none⟩) (v:=.bool b) hx000 hbn1;have hx011:=cell_kept (p:=⟨w.heap.size,1,none⟩) (v:=.slice p a1 c1) hx010 hbn1;have hx111:=cell_kept (p:=⟨w.heap.size + 1,1,none⟩) (v:=.slice q a2 d1) hx110 hbn1;have hs1:=hbn1.size;have hzc01:=cell_kept (p:=⟨w.heap.size + 1 + 1,0,none⟩) (v:=.bool false) hzc00 hbn1;have hzc11:=cell_kept (p:=⟨w.heap.size + 1 + 1,1,none⟩) (v:=.slice none 0 0) hzc10 hbn1;have hzf01:=frozen_kept (p:=⟨w.heap.size + 1 + 1,0,none⟩) (b:=false) hzf00 hbn1 (by have hlt:=hlt0;simp at hs0 hlt ⊢;omega);have hzf11:=frozen_kept (p:=⟨w.heap.size + 1 + 1,1,none⟩) (b:=false) hzf10 hbn1 (by have hlt:=hlt0;simp at hs0 hlt ⊢;omega)))
  go_wp2_with fail
  refine ret74 Tryz.results80 _ rfl (.bool z) (.slice p3 (Qd.lsz u) c3) (by go_simp) (by go_simp) rfl ?_
  exact ⟨_,rfl,Mg.set2 hm3 hzc01 _ _,(by repeat' first | exact Below.refl _ _ | assumption | refine Below.setCell ?_ ?_ _ | refine Below.alloc ?_ ?_ _ | refine below_drewN ?_ | refine Below.drew ?_ | (simp;done) | (simp;omega))⟩
set_option maxHeartbeats 4000000 in
set_option maxRecDepth 100000 in
theorem refPlus_lt (b c : Bool) (s t : Value) (m n : Nat) (hbc : (b == c) = false) (hmn : m <= n) (hne : m < n) (h1 : Qd.lsz m <= 10000) (h2 : Qd.lsz n <= 10000) (w : World) (hs : Mags w s m) (ht : Mags w t n) :
    Calls Tryz.prog 80 #[.agg #[.bool b,s],.agg #[.bool c,t]] w fun e w'=>∃ v,e = .returned (.agg #[.bool (c && !decide (n - m = 0)),v])/\Mags w' v (n - m)/\Below w.heap.size w w':=by
  have hlt : Qd.lsz (n - m) <= 10001:=Nat.le_trans (Qd.lsz_mono (Nat.sub_le n m)) (Nat.le_trans h2 (by decide))
  have C1:=Lib.hid (fun W (hb : Below w.heap.size w W)=>refMinusM_any t s n m hmn h2 W (ht.keep hb) (hs.keep hb))
  have C2:=Lib.hid (fun W v (hm : Mags W v (n - m))=>refTrim_any c v (n - m) _ (by omega) (Qd.lsz_lt _) W hm)
  have C0:=Lib.hid (fun W (hb : Below w.heap.size w W)=>refMag_any s t m n h1 h2 W (hs.keep hb) (ht.keep hb))
  have hr : decide ((0 : Int) <= cmpN m n) = false:=by unfold cmpN;rw [if_pos (by omega)];rfl
  obtain ⟨z,hz⟩ : ∃ z,(c && !decide (n - m = 0)) = z:=⟨_,rfl⟩
  obtain ⟨u,hu⟩ : ∃ u,n - m = u:=⟨_,rfl⟩
  obtain ⟨p,c1,rfl,_,_⟩:=hs.parts
  obtain ⟨q,d1,rfl,_,_⟩:=ht.parts
  rw [hz] at C2 ⊢
  rw [hu] at C1 C2 ⊢
  obtain ⟨a1,ha1⟩ : ∃ a,Qd.lsz m = a:=⟨_,rfl⟩
  obtain ⟨a2,ha2⟩ : ∃ a,Qd.lsz n = a:=⟨_,rfl⟩
  obtain ⟨r,hr0⟩ : ∃ r,cmpN m n = r:=⟨_,rfl⟩
  rw [hr0] at C0 hr
  rw [ha1,ha2] at C0 C1 ⊢
  clear hr0 hmn hne
  clear hs ht hz h1 h2 ha1 ha2 hlt hu
  obtain ⟨⟨k00,k01⟩,⟨k10,k11⟩,⟨k20,k21⟩,kf0,kf1⟩:=cells3 w (.bool b) (.slice p a1 c1) (.bool c) (.slice q a2 d1) (.bool false) (.slice none 0 0) 74 74 74
  go_enter Tryz.func80,Tryz.ntmps80
  go_wp2_with (go_at_call 149;(with_reducible refine (C0.out _ (by repeat' first | exact Below.refl _ _ | assumption | refine Below.setCell ?_ ?_ _ | refine Below.alloc ?_ ?_ _ | refine below_drewN ?_ | refine Below.drew ?_ | (simp;done) | (simp;omega))).mono ?_);rintro e w1 ⟨rfl,hb1⟩;have j00:=cell_kept k00 hb1;have j01:=cell_kept k01 hb1;have j10:=cell_kept k10 hb1;have j11:=cell_kept k11 hb1;have j20:=cell_kept k20 hb1;have j21:=cell_kept k21 hb1;have jf0:=frozen_kept kf0 hb1 (by simp);have jf1:=frozen_kept kf1 hb1 (by simp);have hlt0:=hb1.size;have HB1:=Lib.hid hb1;clear hb1)
  have hw1 : Below w.heap.size w w1:=Below.trans (by repeat' first | exact Below.refl _ _ | assumption | refine Below.setCell ?_ ?_ _ | refine Below.alloc ?_ ?_ _ | refine below_drewN ?_ | refine Below.drew ?_ | (simp;done) | (simp;omega)) (HB1.out.mono (by simp;omega))
  go_region_held3 (fun w'=>w'.cell? ⟨w.heap.size + 1,0,none⟩ = some (.bool c)/\w'.cell? ⟨w.heap.size,1,none⟩ = some (.slice p a1 c1)/\w'.cell? ⟨w.heap.size + 1,1,none⟩ = some (.slice q a2 d1)) (first | exact ⟨j10,j01,j11⟩ | exact ⟨hx100,hx010,hx110⟩ | exact ⟨hx101,hx011,hx111⟩ | exact ⟨cell_set (cell_set hx101 (by first | (simp;done) | (simp;omega))) (by first | (simp;done) | (simp;omega)),cell_set (cell_set hx011 (by first | (simp;done) | (simp;omega))) (by first | (simp;done) | (simp;omega)),cell_set (cell_set hx111 (by first | (simp;done) | (simp;omega))) (by first | (simp;done) | (simp;omega))⟩ | go_keep)
    (first
      | (go_at_call 150;(with_reducible refine (C1.out _ (by repeat' first | exact Below.refl _ _ | assumption | refine Below.setCell ?_ ?_ _ | refine Below.alloc ?_ ?_ _ | refine below_drewN ?_ | refine Below.drew ?_ | (simp;done) | (simp;omega))).mono ?_);rintro e w2 ⟨v,rfl,hm2,hbn0⟩;obtain ⟨p2,c2,rfl,_,_⟩:=hm2.parts;have hlow:=Below.trans (a:=w) (B:=w.heap.size) (by repeat' first | exact Below.refl _ _ | assumption | refine Below.setCell ?_ ?_ _ | refine Below.alloc ?_ ?_ _ | refine below_drewN ?_ | refine Below.drew ?_ | (simp;done) | (simp;omega)) (Below.mono hbn0 (Below.size (B:=w.heap.size) (w:=w) (by repeat' first | exact Below.refl _ _ | assumption | refine Below.setCell ?_ ?_ _ | refine Below.alloc ?_ ?_ _ | refine below_drewN ?_ | refine Below.drew ?_ | (simp;done) | (simp;omega))));have hx100:=cell_kept (p:=⟨w.heap.size + 1,0,none⟩) (v:=.bool c) (by exact j10) hbn0;have hx010:=cell_kept (p:=⟨w.heap.size,1,none⟩) (v:=.slice p a1 c1) (by exact j01) hbn0;have hx110:=cell_kept (p:=⟨w.heap.size + 1,1,none⟩) (v:=.slice q a2 d1) (by exact j11) hbn0;have hs0:=hbn0.size;have hzc00:=cell_kept (p:=⟨w.heap.size + 1 + 1,0,none⟩) (v:=.bool false) (by exact j20) hbn0;have hzc10:=cell_kept (p:=⟨w.heap.size + 1 + 1,1,none⟩) (v:=.slice none 0 0) (by exact j21) hbn0;have hzf00:=frozen_kept (p:=⟨w.heap.size + 1 + 1,0,none⟩) (b:=false) (by exact jf0) hbn0 (by have hlt:=hlt0;simp at hlt ⊢;try omega);have hzf10:=frozen_kept (p:=⟨w.heap.size + 1 + 1,1,none⟩) (b:=false) (by exact jf1) hbn0 (by have hlt:=hlt0;simp at hlt ⊢;try omega))
      | (go_at_call 144;(with_reducible refine (C2.out _ _ hm2).mono ?_);rintro e w3 ⟨v,rfl,hm3,hbn1⟩;obtain ⟨p3,c3,rfl,_,_⟩:=hm3.parts;have hlow3:=Below.trans hlow (Below.mono hbn1 (Below.size hlow));have hx101:=cell_kept (p:=⟨w.heap.size + 1,0,none⟩) (v:=.bool c) hx100 hbn1;have hx011:=cell_kept (p:=⟨w.heap.size,1,none⟩) (v:=.slice p a1 c1) hx010 hbn1;have hx111:=cell_kept (p:=⟨w.heap.size + 1,1,none⟩) (v:=.slice q a2 d1) hx110 hbn1;have hs1:=hbn1.size;have hzc01:=cell_kept (p:=⟨w.heap.size + 1 + 1,0,none⟩) (v:=.bool false) hzc00 hbn1;have hzc11:=cell_kept (p:=⟨w.heap.size + 1 + 1,1,none⟩) (v:=.slice none 0 0) hzc10 hbn1;have hzf01:=frozen_kept (p:=⟨w.heap.size + 1 + 1,0,none⟩) (b:=false) hzf00 hbn1 (by have hlt:=hlt0;simp at hs0 hlt ⊢;omega);have hzf11:=frozen_kept (p:=⟨w.heap.size + 1 + 1,1,none⟩) (b:=false) hzf10 hbn1 (by have hlt:=hlt0;simp at hs0 hlt ⊢;omega)))
  go_wp2_with fail
  refine ret74 Tryz.results80 _ rfl (.bool z) (.slice p3 (Qd.lsz u) c3) (by go_simp) (by go_simp) rfl ?_
  exact ⟨_,rfl,Mg.set2 hm3 hzc01 _ _,(by repeat' first | exact Below.refl _ _ | assumption | refine Below.setCell ?_ ?_ _ | refine Below.alloc ?_ ?_ _ | refine below_drewN ?_ | refine Below.drew ?_ | (simp;done) | (simp;omega))⟩
end
end Go.Proofs.YtpbegoflpfdajaaGreatDoor
/- WHAT IS PROVED: contracts of functions of the numbers package and laws for them, used by the last text of this claim. CONDITIONS: stated at each theorem. -/
import Derived.Test.YtpbegoflpfdajaaGreatDoorB01
namespace Go.Proofs.YtpbegoflpfdajaaGreatDoor
section
open Go.RowKit
@[irreducible] def mixL (x y k : Nat) : List Value:=(List.range 30).map fun i=>.int .u32 (if i < k then lim x i else lim y i)
theorem mixL_len (x y k : Nat) : (mixL x y k).length = 30:=by simp [mixL]
theorem mixL_get (x y k : Nat) {i : Nat} (h : i < 30) : (mixL x y k)[i]? = some (.int .u32 (if i < k then lim x i else lim y i)):=by simp [mixL,h]
theorem list30 {l m : List Value} (hl : l.length = 30) (hm : m.length = 30) (h : ∀ i,i < 30->l[i]? = m[i]?) : l = m:=by
  apply List.ext_getElem?
  intro i
  by_cases hi : i < 30
  · exact h i hi
  · rw [List.getElem?_eq_none (by omega),List.getElem?_eq_none (by omega)]
theorem mixL_zero (x y : Nat) : mixL x y 0 = mgL y:=list30 (mixL_len ..) (mgL_len _) fun i hi=>by rw [mixL_get _ _ _ hi,mgL_get hi];simp
theorem mixL_all (x y : Nat) : mixL x y 30 = mgL x:=list30 (mixL_len ..) (mgL_len _) fun i hi=>by rw [mixL_get _ _ _ hi,mgL_get hi];simp [hi]
theorem mixL_up (x y k : Nat) (_hk : k < 30) : (mixL x y k).set k (.int .u32 (lim x k)) = mixL x y (k + 1):=list30 (by simp [mixL_len]) (mixL_len ..) fun i hi=>by
  rw [List.getElem?_set,mixL_get _ _ _ hi,mixL_get _ _ _ hi,mixL_len]
  by_cases h : k = i
  · subst h;simp [hi]
  · rw [if_neg h];by_cases h2 : i < k
    · rw [if_pos h2,if_pos (by omega)]
    · rw [if_neg h2,if_neg (by omega)]
theorem mixL_down (x y k : Nat) (_hk : k < 30) : (mixL x y (k + 1)).set k (.int .u32 (lim y k)) = mixL x y k:=list30 (by simp [mixL_len]) (mixL_len ..) fun i hi=>by
  rw [List.getElem?_set,mixL_get _ _ _ hi,mixL_get _ _ _ hi,mixL_len]
  by_cases h : k = i
  · subst h;simp [hi]
  · rw [if_neg h];by_cases h2 : i < k
    · rw [if_pos h2,if_pos (by omega)]
    · rw [if_neg h2,if_neg (by omega)]
theorem mixL_at (x y k : Nat) (hk : k < 30) : (mixL x y k)[k]? = some (.int .u32 (lim y k)):=by rw [mixL_get _ _ _ hk];simp
theorem below_drewN {B n : Nat} {w w' : World} (h : Below B w w') : Below B w (w'.drewN n):=h.trans ⟨rfl,rfl,rfl,Nat.le_refl _,fun _ _=>rfl⟩
theorem word_val (n : Nat) (h : n < bb ^ 2) : lim n 1 * 1000000000 + lim n 0 = n:=by
  have h1:=mod_pow_succ n 0
  have h2:=mod_pow_succ n 1
  rw [Nat.mod_eq_of_lt h] at h2
  have hb : bb = 1000000000:=rfl
  simp only [hb,Nat.pow_one,Nat.pow_zero,Nat.mod_one] at *
  omega
set_option maxHeartbeats 400000 in
theorem word_any (n : Nat) (hn : n < bb ^ 2) (w : World) :
    Calls Tryz.prog 162 #[.agg (mgL n).toArray] w fun e w'=>e = .returned (.int .u64 n)/\Below w.heap.size w w':=by
  have hv:=word_val n hn
  have h0:=mgL_get (n:=n) (i:=0) (by omega)
  have h1:=mgL_get (n:=n) (i:=1) (by omega)
  have b0:=lim_lt' n 0
  have b1:=lim_lt' n 1
  generalize lim n 0 = p at *
  generalize lim n 1 = q at *
  have Hv:=Lib.hid hv;clear hv
  go_enter Tryz.func162,Tryz.ntmps162
  go_wp2
  go_ret
  exact ⟨ret_int (by have:=Hv.out;omega),(Below.refl _ _).alloc (Nat.le_refl _) _⟩
set_option maxHeartbeats 400000 in
theorem gcdWords_any (a b : Nat) (ha : a < bb ^ 2) (hb : b < bb ^ 2) (w : World) :
    Calls Tryz.prog 161 #[.int .u64 a,.int .u64 b] w fun e w'=>e = .returned (.int .u64 (Nat.gcd a b))/\Below w.heap.size w w':=by
  have hbb : bb ^ 2 = 1000000000000000000:=rfl
  rw [hbb] at ha hb
  have Ha:=Lib.hid ha;have Hb:=Lib.hid hb
  clear ha hb hbb
  go_enter Tryz.func161,Tryz.ntmps161
  go_wp2
  go_loopw [0,1] (fun x y wr=>∃ p q : Nat,x = .int .u64 p/\y = .int .u64 q/\p < 1000000000000000000/\q < 1000000000000000000/\Nat.gcd p q = Nat.gcd a b/\Below w.heap.size w wr) (fun _ y _=>(intOf y).toNat)
  case atStart=>exact ⟨a,b,rfl,rfl,Ha.out,Hb.out,rfl,Below.refl _ _⟩
  case round =>
    obtain ⟨p,q,rfl,rfl,hp,hq,hg,hB⟩:=hrel
    have Hg:=Lib.hid hg;have HB:=Lib.hid hB
    clear hg hB
    by_cases h : q = 0
    · subst h
      go_wp2
      go_ret
      exact ⟨ret_int (by have:=Hg.out;simp at this;omega),HB.out⟩
    · have h1 : ((q : Int) != 0) = true:=by simp;omega
      have h2 : ((q : Int) == 0) = false:=by simp;omega
      have h3 : (0 : Int) < (q : Int):=by omega
      go_wp2_with fail
      go_quiet (fail)
      go_wp2
      go_roundw
      case rel=>exact ⟨q,p % q,rfl,by simp,hq,Nat.lt_trans (Nat.mod_lt _ (by omega)) hq,by rw [<- Hg.out,Nat.gcd_comm q,<- Nat.gcd_rec,Nat.gcd_comm],below_drewN HB.out⟩
      case measure=>simp only [intOf];have:=Nat.mod_lt p (show 0 < q by omega);omega
theorem cmp_cells {w wr : World} {a b : Nat} (hB : Below (w.heap.size + 2) ((w.alloc (.cells (mgL a).toArray 86)).alloc (.cells (mgL b).toArray 86)) wr) {k : Nat} (hk : k < 30) :
    wr.cell? ⟨w.heap.size,k,none⟩ = some (.int .u32 (lim a k))/\wr.cell? ⟨w.heap.size + 1,k,none⟩ = some (.int .u32 (lim b k)):=by
  rw [hB.cell (p:=⟨w.heap.size,k,none⟩) (by simp),hB.cell (p:=⟨w.heap.size + 1,k,none⟩) (by simp)]
  have h1:=mgL_get (n:=a) hk
  have h2:=mgL_get (n:=b) hk
  constructor
  · simp [h1]
  · simp [h2]
theorem below_boxes {w wr : World} {X Y : Obj} (hB : Below (w.heap.size + 2) ((w.alloc X).alloc Y) wr) : Below w.heap.size w wr :=
  (((Below.refl w.heap.size w).alloc (Nat.le_refl _) X).alloc (by simp) Y).trans (hB.mono (by omega))
set_option maxHeartbeats 1000000 in
theorem compare_any (a b : Nat) (ha : a < bb ^ 30) (hb : b < bb ^ 30) (w : World) :
    Calls Tryz.prog 146 #[.agg (mgL a).toArray,.agg (mgL b).toArray] w fun e w'=>e = .returned (.int .i64 (cmpN a b))/\Below w.heap.size w w':=by
  have Ha:=Lib.hid ha;have Hb:=Lib.hid hb
  clear ha hb
  go_enter Tryz.func146,Tryz.ntmps146
  go_wp2
  go_loopw [7] (fun i wr=>∃ k : Nat,k <= 30/\i = .int .i64 k/\a / bb ^ (30 - k) = b / bb ^ (30 - k)/\Below (w.heap.size + 2) ((w.alloc (.cells (mgL a).toArray 86)).alloc (.cells (mgL b).toArray 86)) wr) (fun i _=>30 - (intOf i).toNat)
  case atStart=>exact ⟨0,by omega,rfl,by rw [Nat.div_eq_of_lt Ha.out,Nat.div_eq_of_lt Hb.out],Below.refl _ _⟩
  case round =>
    obtain ⟨k,hk,rfl,hd,hB⟩:=hrel
    by_cases hlt : k < 30
    · obtain ⟨c1,c2⟩:=cmp_cells hB (k:=29 - k) (by omega)
      have hd' : a / bb ^ (29 - k + 1) = b / bb ^ (29 - k + 1):=by rw [show 29 - k + 1 = 30 - k by omega];exact hd
      have HB:=Lib.hid hB;have Hd:=Lib.hid hd'
      clear hB hd hd'
      have i0 : (29 : Int) - (k : Int) = ((29 - k : Nat) : Int):=by omega
      obtain ⟨j,hj⟩ : ∃ j,29 - k = j:=⟨_,rfl⟩
      rw [hj] at c1 c2 i0 Hd
      have hj30 : j < 30:=by omega
      have Hj:=Lib.hid hj;clear hj
      have Hx1:=Lib.hid (show lim a j < lim b j->cmpN a b = -1 from fun h=>by unfold cmpN;rw [if_pos (lt_of_top Hd.out h)])
      have Hx2:=Lib.hid (show lim b j < lim a j->cmpN a b = 1 from fun h=>by
        have:=lt_of_top Hd.out.symm h
        unfold cmpN;rw [if_neg (by omega),if_pos this])
      have Hx3:=Lib.hid (show lim a j = lim b j->a / bb ^ j = b / bb ^ j from fun h=>div_same Hd.out h)
      generalize lim a j = p at *
      generalize lim b j = q at *
      by_cases h1 : p < q
      · have t1 : decide ((p : Int) < (q : Int)) = true:=by simp;exact h1
        go_wp2_with fail
        go_quiet (fail)
        go_wp2
        go_ret
        exact ⟨ret_int (Hx1.out h1).symm,below_drewN (below_boxes HB.out)⟩
      · have t1 : decide ((p : Int) < (q : Int)) = false:=by simp;omega
        by_cases h2 : q < p
        · have t2 : decide ((q : Int) < (p : Int)) = true:=by simp;exact h2
          go_wp2_with fail
          go_quiet (fail)
          go_wp2_with fail
          go_quiet (fail)
          go_wp2
          go_ret
          exact ⟨ret_int (Hx2.out h2).symm,below_drewN (below_drewN (below_boxes HB.out))⟩
        · have t2 : decide ((q : Int) < (p : Int)) = false:=by simp;omega
          go_wp2_with fail
          go_quiet (fail)
          go_wp2_with fail
          go_quiet (fail)
          go_wp2
          go_roundw
          case rel=>exact ⟨k + 1,by omega,by go_num,by rw [show 30 - (k + 1) = j by have:=Hj.out;omega];exact Hx3.out (by omega),below_drewN HB.out⟩
          case measure=>simp [intOf];omega
    · have he : k = 30:=by omega
      subst he
      have Hd:=Lib.hid (show cmpN a b = 0 by simp at hd;unfold cmpN;rw [if_neg (by omega),if_neg (by omega)])
      have HB:=Lib.hid hB
      clear hB hd
      go_wp2
      go_ret
      exact ⟨ret_int Hd.out.symm,below_boxes HB.out⟩
theorem set_first1 (w : World) (l : List Value) (t : TypeId) (k : Nat) (v : Value) : (w.alloc (.cells l.toArray t)).setCell ⟨w.heap.size,k,none⟩ v = w.alloc (.cells (l.set k v).toArray t):=by
  go_simp
theorem set_under (w : World) (a : Addr) (v : Value) (Y : Obj) (h : a.block < w.heap.size) : (w.alloc Y).setCell a v = (w.setCell a v).alloc Y:=by
  unfold World.setCell World.alloc
  congr 1
  apply Array.ext_getElem?
  intro i
  have hm : ∀ f,∀ H : Array Obj,a.block < H.size->(H.push Y).modify a.block f = (H.modify a.block f).push Y:=by
    intro f H hH
    apply Array.ext_getElem?
    intro j
    rw [Array.getElem?_modify,Array.getElem?_push,Array.getElem?_push,Array.size_modify,Array.getElem?_modify]
    by_cases h1 : j = H.size
    · subst h1;simp;intro h2;omega
    · simp [h1]
  rw [hm _ _ h]
theorem set_drewN (w : World) (n : Nat) (a : Addr) (v : Value) : (w.drewN n).setCell a v = (w.setCell a v).drewN n:=rfl
theorem set_first3 (w : World) (l : List Value) (t : TypeId) (Y Z : Obj) (n k : Nat) (v : Value) : ((((w.alloc (.cells l.toArray t)).alloc Y).alloc Z).drewN n).setCell ⟨w.heap.size,k,none⟩ v = (((w.alloc (.cells (l.set k v).toArray t)).alloc Y).alloc Z).drewN n:=by
  rw [set_drewN,set_under _ _ _ _ (by simp;omega),set_under _ _ _ _ (by simp),set_first1]
theorem set_first2 (w : World) (l : List Value) (t : TypeId) (Y : Obj) (n k : Nat) (v : Value) : (((w.alloc (.cells l.toArray t)).alloc Y).drewN n).setCell ⟨w.heap.size,k,none⟩ v = ((w.alloc (.cells (l.set k v).toArray t)).alloc Y).drewN n:=by
  rw [set_drewN,set_under _ _ _ _ (by simp),set_first1]
end
section
open Go.RowKit
theorem int_v {k : IntKind} {a b : Int} (h : a = b) : Value.int k a = .int k b:=by rw [h]
theorem below3 (w : World) (X Y Z : Obj) (n : Nat) : Below w.heap.size w ((((w.alloc X).alloc Y).alloc Z).drewN n) :=
  below_drewN ((((Below.refl w.heap.size w).alloc (Nat.le_refl _) X).alloc (by simp) Y).alloc (by simp;omega) Z)
theorem range3 (w : World) (l : List Value) (t : TypeId) (Y Z : Obj) (n : Nat) : ((((w.alloc (.cells l.toArray t)).alloc Y).alloc Z).drewN n).rangeAt w.heap.size 0 l :=
  World.rangeAt_alloc (World.rangeAt_alloc (range_new w l t) Y) Z
theorem there3 (w : World) (X Y : Obj) (l : List Value) (t : TypeId) (n m : Nat) (h : m = l.length) : ((((w.alloc X).alloc Y).alloc (.cells l.toArray t)).drewN n).there (w.heap.size + 2) 0 m :=
  there_at (w:=(w.alloc X).alloc Y) (by simp) l t h
set_option maxHeartbeats 1000000 in
theorem plus_any (a b : Nat) (hs : a + b < bb ^ 30) (w : World) :
    Calls Tryz.prog 145 #[.agg (mgL a).toArray,.agg (mgL b).toArray] w fun e w'=>e = .returned (.agg (mgL (a + b)).toArray)/\Below w.heap.size w w':=by
  have Hs:=Lib.hid hs;clear hs
  go_enter Tryz.func145,Tryz.ntmps145
  go_wp2_with (first | ((with_reducible refine al_z 86 _ ?_ z86 ?_);· exact ⟨rfl,rfl⟩))
  go_loopw [5,8] (fun c i wr=>∃ k : Nat,k <= 30/\i = .int .i64 k/\c = .int .u32 (car a b k)/\∃ n,wr = (((w.alloc (.cells (mixL (a + b) a k).toArray 86)).alloc (.cells (mgL b).toArray 86)).alloc (.cells (mgL 0).toArray 86)).drewN n) (fun _ i _=>30 - (intOf i).toNat)
  case atStart=>exact ⟨0,by omega,rfl,by rw [car_zero];rfl,0,by rw [mixL_zero];rfl⟩
  case round =>
    obtain ⟨k,hk,rfl,rfl,nd,rfl⟩:=hrel
    by_cases hlt : k < 30
    · have c1:=mixL_at (a + b) a k hlt
      have c2:=mgL_get (n:=b) hlt
      have b1:=lim_lt' a k
      have b2:=lim_lt' b k
      have b3:=car_le a b k
      have e1:=lim_add a b k
      have e2:=car_succ a b k
      rw [show bb = 1000000000 from rfl] at e1 e2
      have E3:=Lib.hid (mixL_up (a + b) a k hlt)
      generalize lim a k = p at *
      generalize lim b k = q at *
      generalize car a b k = c at *
      have E2:=Lib.hid e2
      have E1:=Lib.hid e1
      clear e1 e2
      go_wp2_with fail
      go_quiet (fail)
      go_wp2
      go_roundw
      case rel =>
        refine ⟨k + 1,by omega,by go_num,?_,nd + nq,?_⟩
        · rw [E2.out];exact int_v (by omega)
        · rw [<- E3.out,E1.out,<- set_first3];exact congrArg _ (int_v (by omega))
      case measure=>simp [intOf];omega
    · have hm : ∀ x,mixL x a k = mgL x:=fun x=>by rw [show k = 30 by omega,mixL_all]
      rw [hm]
      clear hm
      have Hr:=Lib.hid (range3 w (mgL (a + b)) 86 (.cells (mgL b).toArray 86) (.cells (mgL 0).toArray 86) nd)
      have ht:=there3 w (.cells (mgL (a + b)).toArray 86) (.cells (mgL b).toArray 86) (mgL 0) 86 nd 30 (by rw [mgL_len])
      have Ht:=Lib.hid ht;clear ht
      go_wp2_with (first
        | ((with_reducible refine ld86 w.heap.size 0 (a + b) ?_ ?_ ?_);(· exact ⟨rfl,_,rfl,rfl⟩);· exact Hr.out)
        | ((with_reducible refine st86 (w.heap.size + 2) 0 (a + b) ?_ ?_ ?_);(· exact ⟨rfl,_,_,rfl,rfl,rfl⟩);· exact Ht.out))
      refine ret86 Tryz.results145 (w.heap.size + 2) 0 rfl (a + b) (range_set Ht.out (by rw [mgL_len])) rfl ⟨rfl,?_⟩
      exact below_set (below3 ..) (by omega) _ _
set_option maxHeartbeats 1000000 in
theorem minus_any (a b : Nat) (hs : b <= a) (w : World) :
    Calls Tryz.prog 155 #[.agg (mgL a).toArray,.agg (mgL b).toArray] w fun e w'=>e = .returned (.agg (mgL (a - b)).toArray)/\Below w.heap.size w w':=by
  have Hs:=Lib.hid hs;clear hs
  go_enter Tryz.func155,Tryz.ntmps155
  go_wp2_with (first | ((with_reducible refine al_z 86 _ ?_ z86 ?_);· exact ⟨rfl,rfl⟩))
  go_loopw [5,8] (fun c i wr=>∃ k : Nat,k <= 30/\i = .int .i64 k/\c = .int .u32 (bor a b k)/\∃ n,wr = (((w.alloc (.cells (mixL (a - b) a k).toArray 86)).alloc (.cells (mgL b).toArray 86)).alloc (.cells (mgL 0).toArray 86)).drewN n) (fun _ i _=>30 - (intOf i).toNat)
  case atStart=>exact ⟨0,by omega,rfl,by rw [bor_zero];rfl,0,by rw [mixL_zero];rfl⟩
  case round =>
    obtain ⟨k,hk,rfl,rfl,nd,rfl⟩:=hrel
    by_cases hlt : k < 30
    · have c1:=mixL_at (a - b) a k hlt
      have c2:=mgL_get (n:=b) hlt
      have b1:=lim_lt' a k
      have b2:=lim_lt' b k
      have b3:=bor_le a b k
      have e1:=lim_sub a b k Hs.out
      have e2:=bor_succ a b k
      rw [show bb = 1000000000 from rfl] at e1 e2
      have E3:=Lib.hid (mixL_up (a - b) a k hlt)
      generalize lim a k = p at *
      generalize lim b k = q at *
      generalize bor a b k = c at *
      have E2:=Lib.hid e2
      have E1:=Lib.hid e1
      clear e1 e2
      have f1 : (q : Int) <= (p : Int) + 1000000000:=by omega
      have f2 : (c : Int) <= (p : Int) + 1000000000 - (q : Int):=by omega
      have f3 : ((p : Int) + 1000000000 - (q : Int) - (c : Int)) / 1000000000 <= 1:=by omega
      go_wp2_with fail
      go_quiet (fail)
      go_wp2
      go_roundw
      case rel =>
        refine ⟨k + 1,by omega,by go_num,?_,nd + nq,?_⟩
        · rw [E2.out];exact int_v (by omega)
        · rw [<- E3.out,E1.out,<- set_first3];exact congrArg _ (int_v (by omega))
      case measure=>simp [intOf];omega
    · have hm : ∀ x,mixL x a k = mgL x:=fun x=>by rw [show k = 30 by omega,mixL_all]
      rw [hm]
      clear hm
      have Hr:=Lib.hid (range3 w (mgL (a - b)) 86 (.cells (mgL b).toArray 86) (.cells (mgL 0).toArray 86) nd)
      have ht:=there3 w (.cells (mgL (a - b)).toArray 86) (.cells (mgL b).toArray 86) (mgL 0) 86 nd 30 (by rw [mgL_len])
      have Ht:=Lib.hid ht;clear ht
      go_wp2_with (first
        | ((with_reducible refine ld86 w.heap.size 0 (a - b) ?_ ?_ ?_);(· exact ⟨rfl,_,rfl,rfl⟩);· exact Hr.out)
        | ((with_reducible refine st86 (w.heap.size + 2) 0 (a - b) ?_ ?_ ?_);(· exact ⟨rfl,_,_,rfl,rfl,rfl⟩);· exact Ht.out))
      refine ret86 Tryz.results155 (w.heap.size + 2) 0 rfl (a - b) (range_set Ht.out (by rw [mgL_len])) rfl ⟨rfl,?_⟩
      exact below_set (below3 ..) (by omega) _ _
end
section
open Go.RowKit
section
variable {ops : Array Oper} {rest : List Oper} {op : Oper} {a : Act} {w : World} {Q : Exit->Act->World->Prop}
set_option maxRecDepth 100000 in
theorem bd84 (ho : op.guard = none/\op.op = .build 84 #[]) (h : wpList Tryz.prog ops Q rest (a.put op.dst (.agg (mgL 0).toArray)) w) : wpList Tryz.prog ops Q (op :: rest) a w :=
  wpList_plain ho.1 fun K hK=>by
    have h':=hK _ _ h
    rw [zero_mg] at h'
    unfold Oper.wp execOp
    simp only [ho.2]
    go_simp
    exact h'
end
theorem ret_cell_tmp {fn : Func} {R : Ending->World->Prop} {a : Act} {w : World} {tm t2 : Nat} (hres : fn.results = #[.cell tm 86,.tmp t2]) (b o : Nat) (ht : a.tmps.getD tm undef = .pointer (some ⟨b,o,none⟩)) (n : Nat)
    (hc : w.rangeAt b o (mgL n)) (hdf : a.defers = []) (hR : R (.returned (.tuple #[.agg (mgL n).toArray,a.tmps.getD t2 undef])) w) : bodyPost Tryz.prog fn R .ret a w:=by
  refine bodyPost_ret (v:=.tuple #[.agg (mgL n).toArray,a.tmps.getD t2 undef]) ?_ hdf hR
  have h1 : ∀ tmps : Array Value,tmps.getD tm undef = .pointer (some ⟨b,o,none⟩)->(results fn tmps).run Tryz.prog w = .ok (.tuple #[.agg (mgL n).toArray,tmps.getD t2 undef]) w:=by
    intro tmps ht
    have ht' : tmps[tm]?.getD undef = .pointer (some ⟨b,o,none⟩):=by simpa using ht
    unfold results
    rw [hres]
    simp [asAddr,ht',run_loadVar_mid w b o 86 (mgL n) _ hc Tryz.underlying86 rfl (by rw [mgL_len];exact i86),Result.andThen]
  exact h1 _ ht
theorem ret_cell_cell {fn : Func} {R : Ending->World->Prop} {a : Act} {w : World} {tm t2 : Nat} (hres : fn.results = #[.cell tm 86,.cell t2 86]) (b o b2 o2 : Nat) (ht : a.tmps.getD tm undef = .pointer (some ⟨b,o,none⟩)) (ht2 : a.tmps.getD t2 undef = .pointer (some ⟨b2,o2,none⟩)) (n m : Nat)
    (hc : w.rangeAt b o (mgL n)) (hc2 : w.rangeAt b2 o2 (mgL m)) (hdf : a.defers = []) (hR : R (.returned (.tuple #[.agg (mgL n).toArray,.agg (mgL m).toArray])) w) : bodyPost Tryz.prog fn R .ret a w:=by
  refine bodyPost_ret (v:=.tuple #[.agg (mgL n).toArray,.agg (mgL m).toArray]) ?_ hdf hR
  have h1 : ∀ tmps : Array Value,tmps.getD tm undef = .pointer (some ⟨b,o,none⟩)->tmps.getD t2 undef = .pointer (some ⟨b2,o2,none⟩)->(results fn tmps).run Tryz.prog w = .ok (.tuple #[.agg (mgL n).toArray,.agg (mgL m).toArray]) w:=by
    intro tmps ht ht2
    have ht' : tmps[tm]?.getD undef = .pointer (some ⟨b,o,none⟩):=by simpa using ht
    have ht2' : tmps[t2]?.getD undef = .pointer (some ⟨b2,o2,none⟩):=by simpa using ht2
    unfold results
    rw [hres]
    simp [asAddr,ht',ht2',run_loadVar_mid w b o 86 (mgL n) _ hc Tryz.underlying86 rfl (by rw [mgL_len];exact i86),run_loadVar_mid w b2 o2 86 (mgL m) _ hc2 Tryz.underlying86 rfl (by rw [mgL_len];exact i86),Result.andThen]
  exact h1 _ ht ht2
set_option maxHeartbeats 400000 in
theorem isZero_any (n : Nat) (hn : n < bb ^ 30) (w : World) :
    Calls Tryz.prog 86 #[.agg (mgL n).toArray] w fun e w'=>e = .returned (.bool (decide (n = 0)))/\Below w.heap.size w w':=by
  have he:=fun w=>eq84 9998 n 0 hn (bb_pow_pos 30) w
  simp only [Nat.reduceAdd] at he
  go_enter Tryz.func86,Tryz.ntmps86
  go_wp2_with (first
    | ((with_reducible refine ld84 w.heap.size 0 n ?_ ?_ ?_);(· exact ⟨rfl,_,rfl,rfl⟩);· exact range_new _ _ _)
    | ((with_reducible refine bd84 ?_ ?_);· exact ⟨rfl,rfl⟩))
  go_ret
  exact ⟨rfl,(Below.refl _ _).alloc (Nat.le_refl _) _⟩
/-! division by one limb -/
theorem dl_lim (m d k : Nat) (hd : 0 < d) : lim (m / d) k = ((m / bb ^ (k + 1)) % d * bb + lim m k) / d/\(m / bb ^ k) % d = ((m / bb ^ (k + 1)) % d * bb + lim m k) % d:=by
  have e1 : m / bb ^ k = bb * (m / bb ^ (k + 1)) + lim m k:=by
    have:=Nat.div_add_mod (m / bb ^ k) bb
    rw [Nat.div_div_eq_div_mul,<- Nat.pow_succ] at this
    exact this.symm
  have hl:=lim_lt m k
  have e2 : m / d / bb ^ k = m / bb ^ k / d:=by rw [Nat.div_div_eq_div_mul,Nat.mul_comm,<- Nat.div_div_eq_div_mul]
  have e3:=Nat.div_add_mod (m / bb ^ (k + 1)) d
  have hr:=Nat.mod_lt (m / bb ^ (k + 1)) hd
  generalize m / bb ^ (k + 1) = X at *
  generalize lim m k = l at *
  generalize hq : X / d = q at *
  generalize hrr : X % d = r at *
  have e4 : m / bb ^ k = d * (bb * q) + (r * bb + l):=by
    rw [e1,<- e3,Nat.mul_add,Nat.mul_comm r bb,<- Nat.add_assoc]
    congr 2
    rw [<- Nat.mul_assoc,<- Nat.mul_assoc,Nat.mul_comm d bb]
  have h5 : r * bb + l < d * bb:=by
    have : (r + 1) * bb <= d * bb:=Nat.mul_le_mul_right _ hr
    rw [Nat.succ_mul] at this
    omega
  constructor
  · unfold lim
    rw [e2,e4,Nat.mul_add_div hd,Nat.add_comm,Nat.add_mul_mod_self_left,Nat.mod_eq_of_lt]
    exact (Nat.div_lt_iff_lt_mul hd).2 (by rw [Nat.mul_comm bb d];exact h5)
  · rw [e4,Nat.mul_add_mod]
set_option maxHeartbeats 1000000 in
theorem divLimb_any (m d : Nat) (hm : m < bb ^ 30) (hd : 0 < d) (hd2 : d < bb) (w : World) :
    Calls Tryz.prog 196 #[.agg (mgL m).toArray,.int .u32 d] w fun e w'=>e = .returned (.tuple #[.agg (mgL (m / d)).toArray,.int .u32 (m % d : Nat)])/\Below w.heap.size w w':=by
  have Hm:=Lib.hid hm;clear hm
  have hd3 : d < 1000000000:=hd2
  clear hd2
  have hz : ((d : Int) == 0) = false:=by simp;omega
  have hz2 : (0 : Int) < (d : Int):=by omega
  have hz3 : (d : Int) < 1000000000:=by omega
  go_enter Tryz.func196,Tryz.ntmps196
  go_wp2_with (first | ((with_reducible refine al_z 86 _ ?_ z86 ?_);· exact ⟨rfl,rfl⟩))
  go_loopw [6,9] (fun r i wr=>∃ k : Nat,k <= 30/\i = .int .i64 ((30 - k : Nat) : Int)/\r = .int .u64 ((m / bb ^ k % d : Nat) : Int)/\∃ n,wr = ((w.alloc (.cells (mixL m (m / d) k).toArray 86)).alloc (.cells (mgL 0).toArray 86)).drewN n) (fun _ i _=>30 - (intOf i).toNat)
  case atStart=>exact ⟨30,by omega,rfl,by rw [Nat.div_eq_of_lt Hm.out];simp,0,by rw [mixL_all];rfl⟩
  case round =>
    obtain ⟨k,hk,rfl,rfl,nd,rfl⟩:=hrel
    by_cases hlt : 0 < k
    · obtain ⟨j,rfl⟩ : ∃ j,k = j + 1:=⟨k - 1,by omega⟩
      have c1 : (mixL m (m / d) (j + 1))[j]? = some (.int .u32 (lim m j)):=by rw [mixL_get _ _ _ (by omega)];simp
      have b1:=lim_lt' m j
      obtain ⟨e1,e2⟩:=dl_lim m d j hd
      have E3:=Lib.hid (mixL_down m (m / d) j (by omega))
      have b2:=Nat.mod_lt (m / bb ^ (j + 1)) hd
      rw [show bb = 1000000000 from rfl] at e1
      have e2' : m / bb ^ j % d = (m / bb ^ (j + 1) % d * 1000000000 + lim m j) % d:=e2
      clear e2
      have e1' : lim (m / d) j = (m / bb ^ (j + 1) % d * 1000000000 + lim m j) / d:=e1
      clear e1
      generalize lim m j = p at *
      generalize m / bb ^ (j + 1) % d = r at *
      have E1:=Lib.hid e1';have E2:=Lib.hid e2'
      clear e1' e2'
      have i0 : (29 : Int) - ((30 - (j + 1) : Nat) : Int) = (j : Int):=by omega
      have i1 : ((30 - (j + 1) : Nat) : Int) < 30:=by omega
      have q1 : ((r : Int) * 1000000000 + (p : Int)) / (d : Int) < 1000000000:=by
        apply Int.ediv_lt_of_lt_mul hz2
        have : ((r : Int) + 1) <= (d : Int):=by omega
        omega
      have q0 : 0 <= ((r : Int) * 1000000000 + (p : Int)) / (d : Int):=Int.ediv_nonneg (by omega) (by omega)
      have i2:=Lib.hid (show (30 - (j + 1)) + 1 = 30 - j by omega)
      generalize 30 - (j + 1) = ii at *
      go_wp2
      go_roundw
      case rel =>
        refine ⟨j,by omega,int_v (by have:=i2.out;omega),int_v (by rw [E2.out];simp),nd,?_⟩
        rw [<- E3.out,E1.out,<- set_first2]
        exact congrArg _ (int_v (by simp))
      case measure=>simp only [intOf];omega
    · have hk0 : k = 0:=by omega
      have hm : ∀ x,mixL m x k = mgL x:=fun x=>by rw [hk0,mixL_zero]
      rw [hm]
      have hq : m / bb ^ k % d = m % d:=by rw [hk0];simp
      rw [hq]
      have hr:=Nat.mod_lt m hd
      clear hm hq
      have i1 : ¬ ((30 - k : Nat) : Int) < 30:=by omega
      have Hr:=Lib.hid (show (((w.alloc (.cells (mgL (m / d)).toArray 86)).alloc (.cells (mgL 0).toArray 86)).drewN nd).rangeAt w.heap.size 0 (mgL (m / d)) from World.rangeAt_alloc (range_new w _ 86) _)
      have Ht:=Lib.hid (show (((w.alloc (.cells (mgL (m / d)).toArray 86)).alloc (.cells (mgL 0).toArray 86)).drewN nd).there (w.heap.size + 1) 0 30 from there_at (by simp) _ _ (by rw [mgL_len]))
      have Hmd:=Lib.hid (show ∀ r : Nat,m % d = r->(r : Int) = (m : Int) % (d : Int) from fun r h=>by rw [<- h];simp)
      obtain ⟨r,hmr⟩ : ∃ r,m % d = r:=⟨_,rfl⟩
      have Hmr:=Lib.hid (Hmd.out r hmr)
      rw [hmr] at hr ⊢
      clear hmr Hmd
      generalize 30 - k = ii at *
      go_wp2_with (first
        | ((with_reducible refine ld86 w.heap.size 0 (m / d) ?_ ?_ ?_);(· exact ⟨rfl,_,rfl,rfl⟩);· exact Hr.out)
        | ((with_reducible refine st86 (w.heap.size + 1) 0 (m / d) ?_ ?_ ?_);(· exact ⟨rfl,_,_,rfl,rfl,rfl⟩);· exact Ht.out))
      refine ret_cell_tmp Tryz.results196 (w.heap.size + 1) 0 rfl (m / d) (range_set Ht.out (by rw [mgL_len])) rfl ⟨congrArg (fun x : Int=>Ending.returned (.tuple #[.agg (mgL (m / d)).toArray,.int .u32 x])) Hmr.out,?_⟩
      exact below_set (below_drewN (((Below.refl w.heap.size w).alloc (Nat.le_refl _) _).alloc (by simp) _)) (by omega) _ _
end
section
open Go.RowKit
/-! what a call or a store elsewhere leaves -/
theorem range_keep {W w1 : World} {b o : Nat} {cs : List Value} (h : W.rangeAt b o cs) (hb : Below W.heap.size W w1) : w1.rangeAt b o cs:=fun j v hv=>by
  have hc:=h j v hv
  rw [hb.cell (p:=⟨b,o + j,none⟩) (World.block_lt_of_cell? W _ hc)];exact hc
theorem there_keep {W w1 : World} {b o n : Nat} (h : W.there b o n) (hb : Below W.heap.size W w1) : w1.there b o n:=fun j hj=>by
  obtain ⟨h1,h2⟩:=h j hj
  obtain ⟨u,hu⟩:=Option.isSome_iff_exists.1 h1
  have hlt:=World.block_lt_of_cell? W _ hu
  rw [hb.cell (p:=⟨b,o + j,none⟩) hlt,hb.frozen (p:=⟨b,o + j,none⟩) hlt];exact ⟨h1,h2⟩
theorem cell_keep {W w1 : World} {p : Addr} {v : Value} (h : W.cell? p = some v) (hb : Below W.heap.size W w1) : w1.cell? p = some v:=by
  rw [hb.cell (World.block_lt_of_cell? W _ h)];exact h
theorem range_setk {W : World} {b o : Nat} {cs : List Value} (h : W.rangeAt b o cs) {b2 o2 : Nat} {vs : List Value} (hne : b ≠ b2) : (W.setCells b2 o2 vs).rangeAt b o cs:=World.rangeAt_setCells_apart h b2 o2 vs (Or.inl hne)
theorem there_setk {W : World} {b o n : Nat} (h : W.there b o n) {b2 o2 : Nat} {vs : List Value} (_hne : True) : (W.setCells b2 o2 vs).there b o n:=World.there_setCells h b2 o2 vs
theorem cell_setk {W : World} {b o : Nat} {v : Value} (h : W.cell? ⟨b,o,none⟩ = some v) {b2 o2 : Nat} {vs : List Value} (hne : b ≠ b2) : (W.setCells b2 o2 vs).cell? ⟨b,o,none⟩ = some v:=by
  rw [World.cell?_setCells_out b2 vs o2 W ⟨b,o,none⟩ (fun hb _=>absurd hb hne)];exact h
theorem al_zb {ops : Array Oper} {rest : List Oper} {op : Oper} {a : Act} {w : World} {Q : Exit->Act->World->Prop} (t : TypeId) (z : Array Value) (b : Nat) (ho : op.guard = none/\op.op = .alloc t) (hb : b = w.heap.size) (hz : ∀ w,(zeroValue t).run Tryz.prog w = .ok (.agg z) w)
    (h : wpList Tryz.prog ops Q rest (a.put op.dst (.pointer (some ⟨b,0,none⟩))) (w.alloc (.cells z t))) : wpList Tryz.prog ops Q (op :: rest) a w:=by
  subst hb;exact al_z t z ho hz h
theorem run_next {P : Program} {s : Sem Value} {v : Value} {w : World} (h : s.run P w = .ok v w) : ((do pure (.value (<- s))) : Sem Next).run P w = .ok (.value v) w:=by
  simp [h,Result.andThen]
theorem splice_get (off : Nat) : ∀ (l : List Value) (k : Nat) (cs : Array Value),∀ i : Nat,((l.zipIdx k).foldl (fun cs (p : Value × Nat)=>cs.setIfInBounds (off + p.2) p.1) cs)[i]? = if off + k <= i/\i < off + k + l.length/\i < cs.size then l[i - (off + k)]? else cs[i]?
  | [],k,cs,i=>by simp;intro h1 h2;omega
  | v :: l,k,cs,i=>by
    rw [List.zipIdx_cons,List.foldl_cons,splice_get off l (k + 1),Array.getElem?_setIfInBounds,Array.size_setIfInBounds]
    simp only [List.length_cons]
    by_cases h1 : off + k = i
    · subst h1
      rw [if_neg (by omega),if_pos rfl]
      by_cases h2 : off + k < cs.size
      · rw [if_pos h2,if_pos ⟨by omega,by omega,h2⟩];simp
      · rw [if_neg h2,if_neg (by omega)];simp;omega
    · rw [if_neg h1]
      by_cases h2 : off + (k + 1) <= i/\i < off + (k + 1) + l.length/\i < cs.size
      · rw [if_pos h2,if_pos ⟨by omega,by omega,h2.2.2⟩]
        rw [show i - (off + k) = (i - (off + (k + 1))) + 1 by omega,List.getElem?_cons_succ]
      · rw [if_neg h2,if_neg (by omega)]
theorem splice (p q r l : List Value) (h : q.length = l.length) : (l.toArray.zipIdx.foldl (fun cs (x : Value × Nat)=>cs.setIfInBounds (p.length + x.2) x.1) (p ++ q ++ r).toArray) = (p ++ l ++ r).toArray:=by
  apply Array.ext_getElem?
  intro i
  rw [<- Array.foldl_toList,Array.toList_zipIdx,splice_get]
  simp only [Nat.add_zero,List.getElem?_toArray,List.size_toArray,List.length_append]
  by_cases h1 : i < p.length
  · rw [if_neg (by omega),List.append_assoc,List.append_assoc,List.getElem?_append_left h1,List.getElem?_append_left h1]
  · by_cases h2 : i < p.length + l.length
    · rw [if_pos ⟨by omega,by omega,by omega⟩]
      rw [List.append_assoc,List.getElem?_append_right (by omega),List.getElem?_append_left (by omega)]
    · rw [if_neg (by omega)]
      rw [List.getElem?_append_right (by simp;omega),List.getElem?_append_right (by simp;omega)]
      simp [h]
theorem mapM88 (w : World) : (Array.mapM (fun (f : Field)=>do let z <- Go.sizeOf f.type;pure (f.offset,z)) #[({ name := "magnitude", type:=86,offset:=0,embedded:=true,tag := "", pkgPath := "entail/num", byteOffset:=0 } : Field),{ name := "negative", type:=4,offset:=30,embedded:=false,tag := "", pkgPath := "entail/num", byteOffset:=120 }] : Sem (Array (Nat × Nat))).run Tryz.prog w = .ok #[(0,30),(30,1)] w:=by
  simp [Tryz.sizeOf86,Tryz.sizeOf4,Result.andThen]
theorem build88 (n : Nat) (s : Bool) (w : World) : (Instr.build 88 #[(0,.agg (mgL n).toArray),(1,.bool s)]).run Tryz.prog w = .ok (.agg (sgL n s).toArray) w:=by
  unfold Instr.build
  rw [Sem.run_bind,z88,Result.andThen_ok]
  simp only [Sem.run_bind,run_underlying Tryz.underlying88,Result.andThen_ok]
  rw [mapM88,Result.andThen_ok]
  have h1:=splice [] (mgL 0) [.bool false] (mgL n) (by rw [mgL_len,mgL_len])
  have h2:=splice (mgL n) [.bool false] [] [.bool s] rfl
  simp only [List.nil_append,List.append_nil,List.length_nil,mgL_len] at h1 h2
  have e1 : (Value.agg (sgL 0 false).toArray).cells = (mgL 0 ++ [Value.bool false]).toArray:=by unfold sgL;rfl
  have e2 : (Value.agg (mgL n).toArray).cells = (mgL n).toArray:=rfl
  have e3 : (Value.bool s).cells = [Value.bool s].toArray:=rfl
  have f : Instr.fill (fun x=>[(0,30),(30,1)][x]?) (Value.agg (sgL 0 false).toArray).cells [(0,.agg (mgL n).toArray),(1,.bool s)] = some (sgL n s).toArray:=by
    rw [e1]
    unfold Instr.fill
    simp only [List.getElem?_cons_zero,e2,mgL_size]
    rw [if_neg (by simp [mgL_len])]
    rw [h1]
    unfold Instr.fill
    simp only [List.getElem?_cons_succ,List.getElem?_cons_zero,e3]
    rw [if_neg (by simp [mgL_len])]
    rw [h2]
    unfold Instr.fill sgL
    rfl
  simp [f]
section
variable {op : Oper} {a : Act} {w : World} {K : Act->World->Prop} {Q : Exit->Act->World->Prop}
theorem wst86 (b o : Nat) (n : Nat) (ho : ∃ x y,op.op = .store 86 x y/\a.eval x = .pointer (some ⟨b,o,none⟩)/\a.eval y = .agg (mgL n).toArray)
    (ht : w.there b o 30) (h : K (a.put op.dst undef) (w.setCells b o (mgL n))) : op.wp Tryz.prog a w K Q :=
  let ⟨x,y,h1,h2,h3⟩:=ho;wp_store_mid 86 x y h1 b o _ h2 h3 (by rw [mgL_size];exact ht) (by rw [mgL_size];exact i86) (mgA_one n) h
theorem wst88 (b o : Nat) (n : Nat) (s : Bool) (ho : ∃ x y,op.op = .store 88 x y/\a.eval x = .pointer (some ⟨b,o,none⟩)/\a.eval y = .agg (sgL n s).toArray)
    (ht : w.there b o 31) (h : K (a.put op.dst undef) (w.setCells b o (sgL n s))) : op.wp Tryz.prog a w K Q :=
  let ⟨x,y,h1,h2,h3⟩:=ho;wp_store_mid 88 x y h1 b o _ h2 h3 (by rw [sgL_size];exact ht) (by rw [sgL_size];exact i88) (sgA_one n s) h
theorem wst115 (b o : Nat) (p : Nat) (s : Bool) (q : Nat) (t : Bool) (ho : ∃ x y,op.op = .store 115 x y/\a.eval x = .pointer (some ⟨b,o,none⟩)/\a.eval y = .agg (frL p s q t).toArray)
    (ht : w.there b o 62) (h : K (a.put op.dst undef) (w.setCells b o (frL p s q t))) : op.wp Tryz.prog a w K Q :=
  let ⟨x,y,h1,h2,h3⟩:=ho;wp_store_mid 115 x y h1 b o _ h2 h3 (by rw [frL_size];exact ht) (by rw [frL_size];exact i115) (frA_one p s q t) h
theorem yld86 {ops : Array Oper} {S : World->Prop} (b o : Nat) (n : Nat) (hw : Region.wanted op (yielded ops a.tmps) = true) (ho : ∃ x,op.op = .load 86 x/\a.eval x = .pointer (some ⟨b,o,none⟩))
    (hc : ∀ w,S w->w.rangeAt b o (mgL n)) : YieldsIf Tryz.prog ops S op (.agg (mgL n).toArray) a :=
  let ⟨x,h1,h2⟩:=ho;yieldsIf_load_mid hw 86 x h1 b o h2 (mgL n) _ hc Tryz.underlying86 rfl (by rw [mgL_len];exact i86)
theorem yld88 {ops : Array Oper} {S : World->Prop} (b o : Nat) (n : Nat) (s : Bool) (hw : Region.wanted op (yielded ops a.tmps) = true) (ho : ∃ x,op.op = .load 88 x/\a.eval x = .pointer (some ⟨b,o,none⟩))
    (hc : ∀ w,S w->w.rangeAt b o (sgL n s)) : YieldsIf Tryz.prog ops S op (.agg (sgL n s).toArray) a :=
  let ⟨x,h1,h2⟩:=ho;yieldsIf_load_mid hw 88 x h1 b o h2 (sgL n s) _ hc Tryz.underlying88 rfl (by rw [sgL_len];exact i88)
theorem yld115 {ops : Array Oper} {S : World->Prop} (b o : Nat) (p : Nat) (s : Bool) (q : Nat) (t : Bool) (hw : Region.wanted op (yielded ops a.tmps) = true) (ho : ∃ x,op.op = .load 115 x/\a.eval x = .pointer (some ⟨b,o,none⟩))
    (hc : ∀ w,S w->w.rangeAt b o (frL p s q t)) : YieldsIf Tryz.prog ops S op (.agg (frL p s q t).toArray) a :=
  let ⟨x,h1,h2⟩:=ho;yieldsIf_load_mid hw 115 x h1 b o h2 (frL p s q t) _ hc Tryz.underlying115 rfl (by rw [frL_len];exact i115)
end
theorem yb88 {ops : Array Oper} {S : World->Prop} {op : Oper} {a : Act} (n : Nat) (s : Bool) (x y : Operand) (hw : Region.wanted op (yielded ops a.tmps) = true) (ho : op.op = .build 88 #[(0,x),(1,y)]) (hx : a.eval x = .agg (mgL n).toArray) (hy : a.eval y = .bool s) :
    YieldsIf Tryz.prog ops S op (.agg (sgL n s).toArray) a:=Or.inl ⟨hw,fun w _=>by
  have h:=run_next (build88 n s w)
  unfold execOp
  simp only [ho]
  simpa [hx,hy] using h⟩
end
end Go.Proofs.YtpbegoflpfdajaaGreatDoor
/- WHAT IS PROVED: contracts of functions of the numbers package and laws for them, used by the last text of this claim. CONDITIONS: stated at each theorem. -/
import Derived.Test.YtpbegoflpfdajaaGreatDoorB01
import Derived.Test.YtpbegoflpfdajaaGreatDoorB03
/- Plain arithmetic: the product, limb by limb. -/
namespace Go.Proofs.YtpbegoflpfdajaaGreatDoor

def prQ (m o i : Nat) : Nat:=(m % bb ^ i) * o
def prX (m o i j : Nat) : Nat:=prQ m o i % bb ^ (i + j) + lim m i * (o % bb ^ j) * bb ^ i
def prC (m o i j : Nat) : Nat:=prX m o i j / bb ^ (i + j)

theorem prQ_zero (m o : Nat) : prQ m o 0 = 0:=by unfold prQ;simp [Nat.mod_one]
theorem prC_zero (m o i : Nat) : prC m o i 0 = 0:=by
  unfold prC prX
  rw [Nat.pow_zero,Nat.mod_one,Nat.mul_zero,Nat.zero_mul,Nat.add_zero]
  exact Nat.div_eq_of_lt (Nat.mod_lt _ (bb_pow_pos _))
theorem prX_succ (m o i j : Nat) : prX m o i (j + 1) = prX m o i j + bb ^ (i + j) * (lim (prQ m o i) (i + j) + lim m i * lim o j):=by
  unfold prX
  rw [show i + (j + 1) = (i + j) + 1 by omega,mod_pow_succ,mod_pow_succ,Nat.mul_add (lim m i),Nat.add_mul,Nat.mul_add]
  have : lim m i * (bb ^ j * lim o j) * bb ^ i = bb ^ (i + j) * (lim m i * lim o j):=by
    rw [Nat.pow_add,Nat.mul_assoc (bb ^ i)]
    simp only [Nat.mul_comm,Nat.mul_left_comm]
  rw [this]
  omega
theorem prC_succ (m o i j : Nat) : prC m o i (j + 1) = (lim (prQ m o i) (i + j) + lim m i * lim o j + prC m o i j) / bb:=by
  unfold prC
  rw [prX_succ,show i + (j + 1) = (i + j) + 1 by omega,Nat.pow_succ,<- Nat.div_div_eq_div_mul,Nat.add_mul_div_left _ _ (bb_pow_pos _)]
  congr 1;omega
theorem prX_lim (m o i j : Nat) : lim (prX m o i (j + 1)) (i + j) = (lim (prQ m o i) (i + j) + lim m i * lim o j + prC m o i j) % bb:=by
  unfold lim prC
  rw [prX_succ,Nat.add_mul_div_left _ _ (bb_pow_pos _)]
  unfold lim
  congr 1;omega
theorem prX_low (m o i j t : Nat) (h : t < i + j) : lim (prX m o i (j + 1)) t = lim (prX m o i j) t:=by
  rw [prX_succ]
  unfold lim
  obtain ⟨d,hd⟩ : ∃ d,i + j = t + 1 + d:=⟨i + j - (t + 1),by omega⟩
  rw [hd,Nat.pow_add,Nat.pow_add,Nat.pow_one,Nat.mul_assoc,Nat.mul_assoc,Nat.add_mul_div_left _ _ (bb_pow_pos _)]
  exact Nat.add_mul_mod_self_left _ _ _
theorem prC_lt (m o i j : Nat) : prC m o i j < bb:=by
  induction j with
  | zero=>rw [prC_zero];exact bb_pos
  | succ j ih =>
    rw [prC_succ,Nat.div_lt_iff_lt_mul bb_pos]
    have h1:=lim_lt (prQ m o i) (i + j)
    have h2:=lim_lt m i
    have h3:=lim_lt o j
    have h4 : lim m i * lim o j <= (bb - 1) * (bb - 1):=Nat.mul_le_mul (by omega) (by omega)
    have h5 : (bb - 1) * (bb - 1) = 999999998000000001:=rfl
    have h6 : bb * bb = 1000000000000000000:=rfl
    have h7 : bb = 1000000000:=rfl
    omega
theorem prQ_succ (m o i : Nat) : prQ m o (i + 1) = prQ m o i + lim m i * o * bb ^ i:=by
  unfold prQ
  rw [mod_pow_succ,Nat.add_mul]
  congr 1
  simp only [Nat.mul_comm,Nat.mul_left_comm]
theorem lim_mod (n k t : Nat) (h : t < k) : lim (n % bb ^ k) t = lim n t:=by
  obtain ⟨d,hd⟩ : ∃ d,k = t + 1 + d:=⟨k - (t + 1),by omega⟩
  unfold lim
  rw [hd,Nat.pow_add]
  have h1 : n = bb ^ (t + 1) * bb ^ d * (n / (bb ^ (t + 1) * bb ^ d)) + n % (bb ^ (t + 1) * bb ^ d):=(Nat.div_add_mod ..).symm
  conv=>rhs;rw [h1]
  rw [Nat.pow_succ,Nat.mul_assoc,Nat.mul_assoc,Nat.mul_add_div (bb_pow_pos _),Nat.mul_assoc,Nat.mul_add_mod]
theorem lim_same_mod {a b k t : Nat} (h : a % bb ^ k = b % bb ^ k) (ht : t < k) : lim a t = lim b t:=by
  rw [<- lim_mod a k t ht,<- lim_mod b k t ht,h]
theorem prX_end (m o i : Nat) (_hm : m * o < bb ^ 30) (J : Nat) (hJ : J = min (lsz o + 1) (30 - i)) (hi : i < 30) (t : Nat) (ht : t < 30) :
    (if t < i + J then lim (prX m o i J) t else lim (prQ m o i) t) = lim (prQ m o (i + 1)) t:=by
  have ho:=lsz_lt o
  have hQ : prQ m o i < bb ^ (i + lsz o) ∨ o = 0:=by
    by_cases h0 : o = 0
    · exact Or.inr h0
    · left;unfold prQ;rw [Nat.pow_add]
      exact Nat.mul_lt_mul_of_lt_of_lt (Nat.mod_lt _ (bb_pow_pos _)) ho
  have hQ' : prQ m o i < bb ^ (i + lsz o):=by
    rcases hQ with h | h
    · exact h
    · unfold prQ;rw [h,Nat.mul_zero];exact bb_pow_pos _
  by_cases hc : lsz o + 1 <= 30 - i
  · have hJ' : J = lsz o + 1:=by omega
    have e1 : o % bb ^ J = o:=Nat.mod_eq_of_lt (Nat.lt_of_lt_of_le ho (pow_mono (by omega)))
    have e2 : prQ m o i % bb ^ (i + J) = prQ m o i:=Nat.mod_eq_of_lt (Nat.lt_of_lt_of_le hQ' (pow_mono (by omega)))
    have e3 : prX m o i J = prQ m o (i + 1):=by unfold prX;rw [e1,e2,prQ_succ]
    by_cases h : t < i + J
    · rw [if_pos h,e3]
    · rw [if_neg h,lim_of_lt' hQ' (by omega)]
      have : prQ m o (i + 1) < bb ^ (i + J):=by
        unfold prQ
        rw [hJ',show i + (lsz o + 1) = (i + 1) + lsz o by omega]
        by_cases h0 : o = 0
        · rw [h0,Nat.mul_zero];exact bb_pow_pos _
        · rw [Nat.pow_add bb (i + 1)];exact Nat.mul_lt_mul_of_lt_of_lt (Nat.mod_lt _ (bb_pow_pos _)) ho
      rw [lim_of_lt' this (by omega)]
  · have hJ' : J = 30 - i:=by omega
    have e : i + J = 30:=by omega
    rw [if_pos (by omega)]
    apply lim_same_mod (k:=30) _ ht
    unfold prX
    rw [e,prQ_succ,hJ',Nat.add_mod,Nat.mod_mod,<- Nat.add_mod]
    have : (lim m i * (o % bb ^ (30 - i)) * bb ^ i) % bb ^ 30 = (lim m i * o * bb ^ i) % bb ^ 30:=by
      have e4 : bb ^ 30 = bb ^ (30 - i) * bb ^ i:=by rw [<- Nat.pow_add];congr 1;omega
      rw [e4,Nat.mul_mod_mul_right,Nat.mul_mod_mul_right,Nat.mul_mod (lim m i) (o % bb ^ (30 - i)),Nat.mod_mod,<- Nat.mul_mod]
    rw [Nat.add_mod,this,<- Nat.add_mod]
theorem prQ_all (m o : Nat) : prQ m o (lsz m) = m * o:=by unfold prQ;rw [Nat.mod_eq_of_lt (lsz_lt m)]
end Go.Proofs.YtpbegoflpfdajaaGreatDoor

namespace Go.Proofs.YtpbegoflpfdajaaGreatDoor
open Go.RowKit

def Tm (w : World) (m o : Nat) (L : List Value) (w' : World) : Prop:=Below w.heap.size w w'/\w'.rangeAt w.heap.size 0 (mgL m)/\w'.rangeAt (w.heap.size + 1) 0 (mgL o)/\w'.there (w.heap.size + 2) 0 30/\w'.rangeAt (w.heap.size + 3) 0 L/\w'.there (w.heap.size + 3) 0 30

theorem cell_of_range {W : World} {b : Nat} {cs : List Value} (h : W.rangeAt b 0 cs) {i : Nat} {v : Value} (hv : cs[i]? = some v) : W.cell? ⟨b,i,none⟩ = some v:=by
  have:=h i v hv;rwa [Nat.zero_add] at this
theorem range_setCell {W : World} {b : Nat} {cs : List Value} (h : W.rangeAt b 0 cs) (k : Nat) (v : Value) (hk : k < cs.length) : (W.setCell ⟨b,k,none⟩ v).rangeAt b 0 (cs.set k v):=fun j u hu=>by
  rw [List.getElem?_set] at hu
  rw [Nat.zero_add]
  by_cases e : k = j
  · subst e
    rw [if_pos rfl,if_pos hk] at hu
    obtain rfl:=Option.some.inj hu
    exact World.cell?_setCell_same _ _ _ (cell_of_range h (List.getElem?_eq_getElem hk))
  · rw [if_neg e] at hu
    rw [World.cell?_setCell_other _ _ _ _ (by intro hh;injection hh;omega)]
    exact cell_of_range h hu
theorem range_setOther {W : World} {b o : Nat} {cs : List Value} (h : W.rangeAt b o cs) (a : Addr) (v : Value) (hne : a.block ≠ b) : (W.setCell a v).rangeAt b o cs:=fun j u hu=>by
  rw [World.cell?_setCell_other _ _ _ _ (by intro hh;subst hh;exact hne rfl)]
  exact h j u hu
theorem there_setCell {W : World} {b o n : Nat} (h : W.there b o n) (a : Addr) (v : Value) : (W.setCell a v).there b o n:=fun j hj=>by
  obtain ⟨h1,h2⟩:=h j hj
  refine ⟨?_,by simpa using h2⟩
  obtain ⟨u,hu⟩:=Option.isSome_iff_exists.1 h1
  by_cases e : a = ⟨b,o + j,none⟩
  · subst e;rw [World.cell?_setCell_same _ _ _ hu];rfl
  · rw [World.cell?_setCell_other _ _ _ _ e,hu];rfl
theorem Tm.store {w w' : World} {m o : Nat} {L : List Value} (h : Tm w m o L w') (k : Nat) (v : Value) (hk : k < L.length) : Tm w m o (L.set k v) (w'.setCell ⟨w.heap.size + 3,k,none⟩ v) :=
  ⟨h.1.setCell (by show w.heap.size <= w.heap.size + 3;omega) v,range_setOther h.2.1 _ v (by show w.heap.size + 3 ≠ w.heap.size;omega),range_setOther h.2.2.1 _ v (by show w.heap.size + 3 ≠ w.heap.size + 1;omega),there_setCell h.2.2.2.1 _ v,range_setCell h.2.2.2.2.1 k v hk,there_setCell h.2.2.2.2.2 _ v⟩
theorem Tm.draw {w w' : World} {m o : Nat} {L : List Value} (h : Tm w m o L w') (n : Nat) : Tm w m o L (w'.drewN n):=⟨below_drewN h.1,h.2.1,h.2.2.1,h.2.2.2.1,h.2.2.2.2.1,h.2.2.2.2.2⟩

theorem mixL_self {x y k : Nat} (h : ∀ i,i < k->lim x i = lim y i) : mixL x y k = mgL y:=list30 (mixL_len ..) (mgL_len _) fun i hi=>by
  rw [mixL_get _ _ _ hi,mgL_get hi]
  by_cases e : i < k
  · rw [if_pos e,h i e]
  · rw [if_neg e]
theorem prX_at0 (m o k i : Nat) (h : i < k) : lim (prX m o k 0) i = lim (prQ m o k) i:=by
  unfold prX;simp only [Nat.add_zero,Nat.pow_zero,Nat.mod_one,Nat.mul_zero,Nat.zero_mul]
  exact lim_mod _ _ _ h
theorem mixL_step (m o k q : Nat) (h : k + q < 30) : (mixL (prX m o k q) (prQ m o k) (k + q)).set (k + q) (.int .u32 (lim (prX m o k (q + 1)) (k + q))) = mixL (prX m o k (q + 1)) (prQ m o k) (k + (q + 1)):=list30 (by simp [mixL_len]) (mixL_len ..) fun i hi=>by
  rw [List.getElem?_set,mixL_get _ _ _ hi,mixL_get _ _ _ hi,mixL_len]
  by_cases e : k + q = i
  · rw [if_pos e,if_pos (by omega),if_pos (by omega),e]
  · rw [if_neg e]
    by_cases e2 : i < k + q
    · rw [if_pos e2,if_pos (by omega),prX_low _ _ _ _ _ e2]
    · rw [if_neg e2,if_neg (by omega)]

theorem mixL_end (m o k J : Nat) (hp : m * o < bb ^ 30) (hJ : J = min (lsz o + 1) (30 - k)) (hk : k < 30) : mixL (prX m o k J) (prQ m o k) (k + J) = mgL (prQ m o (k + 1)) :=
  list30 (mixL_len ..) (mgL_len _) fun i hi=>by
    have h:=prX_end m o k hp J hJ hk i hi
    rw [mixL_get _ _ _ hi,mgL_get hi]
    by_cases e : i < k + J
    · rw [if_pos e] at h ⊢;rw [h]
    · rw [if_neg e] at h ⊢;rw [h]

set_option maxHeartbeats 2000000 in
theorem timesM_any (m o : Nat) (hm : m < bb ^ 30) (ho : o < bb ^ 30) (hp : m * o < bb ^ 30) (w : World) :
    Calls Tryz.prog 151 #[.agg (mgL m).toArray,.agg (mgL o).toArray] w fun e w'=>e = .returned (.agg (mgL (m * o)).toArray)/\Below w.heap.size w w':=by
  have Hm:=Lib.hid hm;have Ho:=Lib.hid ho;have Hp:=Lib.hid hp
  clear hm ho hp
  have Hb:=Lib.hid (show Below w.heap.size w ((((w.alloc (.cells (mgL m).toArray 86)).alloc (.cells (mgL o).toArray 86)).alloc (.cells (mgL 0).toArray 86)).alloc (.cells (mgL 0).toArray 86)) from ((((Below.refl w.heap.size w).alloc (Nat.le_refl _) _).alloc (by simp) _).alloc (by simp;omega) _).alloc (by simp;omega) _)
  have Hr1:=Lib.hid (show ((((w.alloc (.cells (mgL m).toArray 86)).alloc (.cells (mgL o).toArray 86)).alloc (.cells (mgL 0).toArray 86)).alloc (.cells (mgL 0).toArray 86)).rangeAt w.heap.size 0 (mgL m) from World.rangeAt_alloc (World.rangeAt_alloc (World.rangeAt_alloc (range_new w _ 86) _) _) _)
  have Hr2:=Lib.hid (show ((((w.alloc (.cells (mgL m).toArray 86)).alloc (.cells (mgL o).toArray 86)).alloc (.cells (mgL 0).toArray 86)).alloc (.cells (mgL 0).toArray 86)).rangeAt (w.heap.size + 1) 0 (mgL o) from World.rangeAt_alloc (World.rangeAt_alloc (range_at (by simp) _ 86) _) _)
  have Ht:=Lib.hid (show ((((w.alloc (.cells (mgL m).toArray 86)).alloc (.cells (mgL o).toArray 86)).alloc (.cells (mgL 0).toArray 86)).alloc (.cells (mgL 0).toArray 86)).there (w.heap.size + 2) 0 30 from World.there_alloc (there_at (by simp) _ 86 (by rw [mgL_len])) _)
  have Hr3:=Lib.hid (show ((((w.alloc (.cells (mgL m).toArray 86)).alloc (.cells (mgL o).toArray 86)).alloc (.cells (mgL 0).toArray 86)).alloc (.cells (mgL 0).toArray 86)).rangeAt (w.heap.size + 3) 0 (mgL 0) from range_at (by simp) _ 86)
  have Ht3:=Lib.hid (show ((((w.alloc (.cells (mgL m).toArray 86)).alloc (.cells (mgL o).toArray 86)).alloc (.cells (mgL 0).toArray 86)).alloc (.cells (mgL 0).toArray 86)).there (w.heap.size + 3) 0 30 from there_at (by simp) _ 86 (by rw [mgL_len]))
  go_enter Tryz.func151,Tryz.ntmps151
  go_wp2_with (first
    | ((with_reducible refine al_zb 86 _ (w.heap.size + 2) ?_ ?_ z86 ?_);(· exact ⟨rfl,rfl⟩);· (simp;done))
    | ((with_reducible refine al_zb 86 _ (w.heap.size + 3) ?_ ?_ z86 ?_);(· exact ⟨rfl,rfl⟩);· (simp;done)))
  refine wp_region_held_drew (S:=(fun w'=>Below w.heap.size w w'/\w'.rangeAt w.heap.size 0 (mgL m)/\w'.rangeAt (w.heap.size + 1) 0 (mgL o)/\w'.there (w.heap.size + 2) 0 30/\w'.rangeAt (w.heap.size + 3) 0 (mgL 0)/\w'.there (w.heap.size + 3) 0 30)) (by kernel_rfl) ?_ (fun hH=>?_)
  · exact ⟨Hb.out.drew,Hr1.out,Hr2.out,Ht.out,Hr3.out,Ht3.out⟩
  try dsimp only at hH
  refine wpAnyH_take (i:=0) (v:=(.agg (mgL m).toArray)) rfl (by kernel_rfl) (by kernel_rfl) (by kernel_rfl) (fun _ _ _ h=>h) (yld86 w.heap.size 0 m rfl ⟨_,rfl,rfl⟩ (fun wz hz=>hz.2.1)) hH ?_
  try simp only [Act.put,List.getElem_toArray,List.getElem_cons_zero,List.setIfInBounds_toArray,List.set_cons_zero,List.set_cons_succ]
  refine wpAnyH_take (i:=2) (v:=(.agg (mgL o).toArray)) rfl (by kernel_rfl) (by kernel_rfl) (by kernel_rfl) (fun _ _ _ h=>h) (yld86 (w.heap.size + 1) 0 o rfl ⟨_,rfl,rfl⟩ (fun wz hz=>hz.2.2.1)) hH ?_
  try simp only [Act.put,List.getElem_toArray,List.getElem_cons_succ,List.getElem_cons_zero,List.setIfInBounds_toArray,List.set_cons_zero,List.set_cons_succ]
  refine wpAnyH_ready (rs:=[1]) (by kernel_rfl) (by simp) ?_
  refine AllReadyH.cons rfl (fun K hK=>?_) AllReadyH.nil
  simp only [List.getElem_toArray,List.getElem_cons_succ,List.getElem_cons_zero]
  rw [if_pos (by rfl)]
  go_simp
  refine (size_any m Hm.out _).mono ?_;rintro e w1 ⟨rfl,hb1⟩
  try simp only []
  refine hK.out _ _ ?_ (fun hH1=>?_)
  · exact ⟨(hH.1).trans (hb1.mono (hH.1).size),range_keep hH.2.1 hb1,range_keep hH.2.2.1 hb1,there_keep hH.2.2.2.1 hb1,range_keep hH.2.2.2.2.1 hb1,there_keep hH.2.2.2.2.2 hb1⟩
  clear hK K
  try simp only [Act.put,List.getElem_toArray,List.getElem_cons_succ,List.getElem_cons_zero,List.setIfInBounds_toArray,List.set_cons_zero,List.set_cons_succ]
  refine wpAnyH_ready (rs:=[3]) (by kernel_rfl) (by simp) ?_
  refine AllReadyH.cons rfl (fun K hK=>?_) AllReadyH.nil
  simp only [List.getElem_toArray,List.getElem_cons_succ,List.getElem_cons_zero]
  rw [if_pos (by rfl)]
  go_simp
  refine (size_any o Ho.out _).mono ?_;rintro e w2 ⟨rfl,hb2⟩
  try simp only []
  refine hK.out _ _ ?_ (fun hH2=>?_)
  · exact ⟨(hH1.1).trans (hb2.mono (hH1.1).size),range_keep hH1.2.1 hb2,range_keep hH1.2.2.1 hb2,there_keep hH1.2.2.2.1 hb2,range_keep hH1.2.2.2.2.1 hb2,there_keep hH1.2.2.2.2.2 hb2⟩
  clear hK K
  try simp only [Act.put,List.getElem_toArray,List.getElem_cons_succ,List.getElem_cons_zero,List.setIfInBounds_toArray,List.set_cons_zero,List.set_cons_succ]
  refine wpAnyH_take (i:=4) (v:=(.int .i64 (lsz m))) rfl (by kernel_rfl) (by kernel_rfl) (by kernel_rfl) (fun _ _ _ h=>h) (Or.inl ⟨by rfl,fun wz hz=>by skip;go_simp⟩) hH2 ?_
  try simp only [Act.put,List.getElem_toArray,List.getElem_cons_succ,List.getElem_cons_zero,List.setIfInBounds_toArray,List.set_cons_zero,List.set_cons_succ]
  refine wpAnyH_take (i:=5) (v:=(.int .i64 (lsz o))) rfl (by kernel_rfl) (by kernel_rfl) (by kernel_rfl) (fun _ _ _ h=>h) (Or.inl ⟨by rfl,fun wz hz=>by skip;go_simp⟩) hH2 ?_
  try simp only [Act.put,List.getElem_toArray,List.getElem_cons_succ,List.getElem_cons_zero,List.setIfInBounds_toArray,List.set_cons_zero,List.set_cons_succ]
  refine wpAnyH_done (by kernel_rfl) ?_ _
  have HT:=Lib.hid (show Tm w m o (mgL 0) w2 from hH2)
  clear hH hH1 hH2 hb1 hb2 Hb Hr1 Hr2 Ht Hr3 Ht3
  have Hlm:=Lib.hid ((lsz_le_iff 30 m).2 Hm.out)
  have Hlo:=Lib.hid ((lsz_le_iff 30 o).2 Ho.out)
  obtain ⟨lm,hlm⟩ : ∃ x,lsz m = x:=⟨_,rfl⟩
  obtain ⟨lo,hlo⟩ : ∃ x,lsz o = x:=⟨_,rfl⟩
  rw [hlm,hlo]
  have Hlm2:=Lib.hid hlm;have Hlo2:=Lib.hid hlo
  have hlm30 : lm <= 30:=hlm ▸ Hlm.out
  have hlo30 : lo <= 30:=hlo ▸ Hlo.out
  clear hlm hlo Hlm Hlo
  go_wp2
  go_loopw [17] (fun i wr=>∃ k : Nat,k <= lm/\i = .int .i64 k/\Tm w m o (mgL (prQ m o k)) wr) (fun i _=>lm - (intOf i).toNat)
  case atStart=>exact ⟨0,by omega,rfl,by rw [prQ_zero];exact HT.out⟩
  case round =>
    obtain ⟨k,hk,rfl,hT⟩:=hrel
    have HT2:=Lib.hid hT
    clear hT
    by_cases hlt : k < lm
    · by_cases hc : lo + 1 <= 30 - k
      · obtain ⟨J,hJ⟩ : ∃ J,lo + 1 = J:=⟨_,rfl⟩
        have i1 : (30 : Int) - (k : Int) = ((30 - k : Nat) : Int):=by omega
        have i2 : (lo : Int) + 1 = (J : Int):=by omega
        have i3 : (J : Int) <= ((30 - k : Nat) : Int):=by omega
        have HJ:=Lib.hid (show J = min (lo + 1) (30 - k) by omega)
        have hJ30 : k + J <= 30:=by omega
        clear hJ hc
        generalize 30 - k = kk at i1 i3
        go_wp2
        go_loopw [9,25] (fun c j w3=>∃ q : Nat,q <= J/\j = .int .i64 q/\c = .int .u64 (prC m o k q)/\Tm w m o (mixL (prX m o k q) (prQ m o k) (k + q)) w3) (fun _ j _=>J - (intOf j).toNat)
        case atStart=>exact ⟨0,by omega,rfl,by rw [prC_zero];rfl,by rw [Nat.add_zero,mixL_self (fun i hi=>prX_at0 m o k i hi)];exact HT2.out⟩
        case round =>
          obtain ⟨q,hq,rfl,rfl,hT⟩:=hrel
          by_cases hlq : q < J
          · have c1:=cell_of_range hT.2.2.2.2.1 (mixL_at (prX m o k q) (prQ m o k) (k + q) (by omega))
            have c2:=cell_of_range hT.2.1 (mgL_get (n:=m) (i:=k) (by omega))
            have c3:=cell_of_range hT.2.2.1 (mgL_get (n:=o) (i:=q) (by omega))
            have f1:=(hT.2.2.2.2.2 (k + q) (by omega)).2
            rw [Nat.zero_add] at f1
            have hT3:=hT.store (k + q) (.int .u32 (lim (prX m o k (q + 1)) (k + q))) (by rw [mixL_len];omega)
            rw [mixL_step m o k q (by omega)] at hT3
            have HT3:=Lib.hid hT3
            have b1:=lim_lt' (prQ m o k) (k + q)
            have b2:=lim_lt' m k
            have b3:=lim_lt' o q
            have b4 : prC m o k q < 1000000000:=prC_lt m o k q
            have e1:=prX_lim m o k q
            have e2:=prC_succ m o k q
            rw [show bb = 1000000000 from rfl] at e1 e2
            clear hT hT3
            generalize lim (prQ m o k) (k + q) = x1 at *
            generalize lim m k = x2 at *
            generalize lim o q = x3 at *
            generalize prC m o k q = x4 at *
            have E1:=Lib.hid e1;have E2:=Lib.hid e2
            have b5 : x2 * x3 <= 999999998000000001:=Nat.le_trans (Nat.mul_le_mul (show x2 <= 999999999 by omega) (show x3 <= 999999999 by omega)) (by omega)
            clear e1 e2
            have b6 : (x2 : Int) * (x3 : Int) <= 999999998000000001:=by
              have : ((x2 * x3 : Nat) : Int) <= 999999998000000001:=by omega
              simpa using this
            have b7 : 0 <= (x2 : Int) * (x3 : Int):=Int.mul_nonneg (by omega) (by omega)
            go_wp2_with fail
            go_quiet (fail)
            go_wp2
            go_roundw
            case rel =>
              refine ⟨q + 1,by omega,by go_num,int_v (by rw [E2.out];simp),?_⟩
              have hv : ((x1 : Int) + (x2 : Int) * (x3 : Int) + (x4 : Int)) % 1000000000 = (lim (prX m o k (q + 1)) (k + q) : Int):=by rw [E1.out];simp
              rw [hv,set_drewN]
              exact HT3.out.draw _
            case measure=>simp only [intOf];omega
          · have hqJ : q = J:=by omega
            have hE : mixL (prX m o k q) (prQ m o k) (k + q) = mgL (prQ m o (k + 1)):=by
              rw [hqJ]
              exact mixL_end m o k J Hp.out (by rw [HJ.out,Hlo2.out]) (by omega)
            rw [hE] at hT
            have HT4:=Lib.hid hT
            clear hT hE
            go_wp2
            go_roundw
            case rel=>exact ⟨k + 1,by omega,by go_num,HT4.out⟩
            case measure=>simp only [intOf];omega
      · obtain ⟨J,hJ⟩ : ∃ J,30 - k = J:=⟨_,rfl⟩
        have i1 : (30 : Int) - (k : Int) = (J : Int):=by omega
        have i3 : ¬ ((lo : Int) + 1 <= (J : Int)):=by omega
        have HJ:=Lib.hid (show J = min (lo + 1) (30 - k) by omega)
        have hJ30 : k + J <= 30:=by omega
        clear hJ hc
        go_wp2
        go_loopw [9,25] (fun c j w3=>∃ q : Nat,q <= J/\j = .int .i64 q/\c = .int .u64 (prC m o k q)/\Tm w m o (mixL (prX m o k q) (prQ m o k) (k + q)) w3) (fun _ j _=>J - (intOf j).toNat)
        case atStart=>exact ⟨0,by omega,rfl,by rw [prC_zero];rfl,by rw [Nat.add_zero,mixL_self (fun i hi=>prX_at0 m o k i hi)];exact HT2.out⟩
        case round =>
          obtain ⟨q,hq,rfl,rfl,hT⟩:=hrel
          by_cases hlq : q < J
          · have c1:=cell_of_range hT.2.2.2.2.1 (mixL_at (prX m o k q) (prQ m o k) (k + q) (by omega))
            have c2:=cell_of_range hT.2.1 (mgL_get (n:=m) (i:=k) (by omega))
            have c3:=cell_of_range hT.2.2.1 (mgL_get (n:=o) (i:=q) (by omega))
            have f1:=(hT.2.2.2.2.2 (k + q) (by omega)).2
            rw [Nat.zero_add] at f1
            have hT3:=hT.store (k + q) (.int .u32 (lim (prX m o k (q + 1)) (k + q))) (by rw [mixL_len];omega)
            rw [mixL_step m o k q (by omega)] at hT3
            have HT3:=Lib.hid hT3
            have b1:=lim_lt' (prQ m o k) (k + q)
            have b2:=lim_lt' m k
            have b3:=lim_lt' o q
            have b4 : prC m o k q < 1000000000:=prC_lt m o k q
            have e1:=prX_lim m o k q
            have e2:=prC_succ m o k q
            rw [show bb = 1000000000 from rfl] at e1 e2
            clear hT hT3
            generalize lim (prQ m o k) (k + q) = x1 at *
            generalize lim m k = x2 at *
            generalize lim o q = x3 at *
            generalize prC m o k q = x4 at *
            have E1:=Lib.hid e1;have E2:=Lib.hid e2
            have b5 : x2 * x3 <= 999999998000000001:=Nat.le_trans (Nat.mul_le_mul (show x2 <= 999999999 by omega) (show x3 <= 999999999 by omega)) (by omega)
            clear e1 e2
            have b6 : (x2 : Int) * (x3 : Int) <= 999999998000000001:=by
              have : ((x2 * x3 : Nat) : Int) <= 999999998000000001:=by omega
              simpa using this
            have b7 : 0 <= (x2 : Int) * (x3 : Int):=Int.mul_nonneg (by omega) (by omega)
            go_wp2_with fail
            go_quiet (fail)
            go_wp2
            go_roundw
            case rel =>
              refine ⟨q + 1,by omega,by go_num,int_v (by rw [E2.out];simp),?_⟩
              have hv : ((x1 : Int) + (x2 : Int) * (x3 : Int) + (x4 : Int)) % 1000000000 = (lim (prX m o k (q + 1)) (k + q) : Int):=by rw [E1.out];simp
              rw [hv,set_drewN]
              exact HT3.out.draw _
            case measure=>simp only [intOf];omega
          · have hqJ : q = J:=by omega
            have hE : mixL (prX m o k q) (prQ m o k) (k + q) = mgL (prQ m o (k + 1)):=by
              rw [hqJ]
              exact mixL_end m o k J Hp.out (by rw [HJ.out,Hlo2.out]) (by omega)
            rw [hE] at hT
            have HT4:=Lib.hid hT
            clear hT hE
            go_wp2
            go_roundw
            case rel=>exact ⟨k + 1,by omega,by go_num,HT4.out⟩
            case measure=>simp only [intOf];omega
    · have hkl : k = lm:=by omega
      have hE : prQ m o k = m * o:=by rw [hkl,<- Hlm2.out,prQ_all]
      have hT:=HT2.out
      rw [hE] at hT
      have HT5:=Lib.hid hT
      clear hT hE HT2
      go_wp2_with (first
        | ((with_reducible refine ld86 (w.heap.size + 3) 0 (m * o) ?_ ?_ ?_);(· exact ⟨rfl,_,rfl,rfl⟩);· exact HT5.out.2.2.2.2.1)
        | ((with_reducible refine st86 (w.heap.size + 2) 0 (m * o) ?_ ?_ ?_);(· exact ⟨rfl,_,_,rfl,rfl,rfl⟩);· exact HT5.out.2.2.2.1))
      refine ret86 Tryz.results151 (w.heap.size + 2) 0 rfl (m * o) (range_set HT5.out.2.2.2.1 (by rw [mgL_len])) rfl ⟨rfl,?_⟩
      exact below_set HT5.out.1 (by omega) _ _
end Go.Proofs.YtpbegoflpfdajaaGreatDoor

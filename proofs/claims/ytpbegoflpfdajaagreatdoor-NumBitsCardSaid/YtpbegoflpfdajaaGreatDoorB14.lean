/- WHAT IS PROVED: contracts of functions of the numbers package and laws for them, used by the last text of this claim. CONDITIONS: stated at each theorem. -/
import Derived.Test.YtpbegoflpfdajaaGreatDoorB13
import Derived.Test.YtpbegoflpfdajaaGreatDoorB02
import Derived.WalkMore
import Derived.Deep.LoopGhost
import Derived.LoopTactic
/- Plain arithmetic: a product taken away from a rest, limb by limb. -/
namespace Go.Proofs.YtpbegoflpfdajaaGreatDoor

theorem lim_shift (n c i : Nat) : lim (n * bb ^ c) (c + i) = lim n i:=by
  unfold lim
  rw [Nat.pow_add,<- Nat.div_div_eq_div_mul,Nat.mul_div_cancel _ (bb_pow_pos c)]
theorem lim_div (n c i : Nat) : lim (n / bb ^ c) i = lim n (c + i):=by
  unfold lim
  rw [Nat.div_div_eq_div_mul,<- Nat.pow_add]
theorem mod_shift (n c : Nat) : (n * bb ^ c) % bb ^ c = 0:=Nat.mul_mod_left _ _
theorem lim_top_add (n c t j : Nat) (h : j < t) : lim (n + bb ^ t * c) j = lim n j:=by
  obtain ⟨k,rfl⟩ : ∃ k,t = j + (k + 1):=⟨t - j - 1,by omega⟩
  unfold lim
  rw [Nat.pow_add,Nat.mul_assoc,Nat.add_mul_div_left _ _ (bb_pow_pos j),Nat.pow_succ,Nat.mul_comm (bb ^ k),Nat.mul_assoc,Nat.add_mul_mod_self_left]
theorem lim_lo (n c t : Nat) (h : n % bb ^ t = c % bb ^ t) (j : Nat) (hj : j < t) : lim n j = lim c j:=by
  have e1:=Nat.div_add_mod n (bb ^ t)
  have e2:=Nat.div_add_mod c (bb ^ t)
  rw [<- e1,<- e2,Nat.add_comm,Nat.add_comm (bb ^ t * (c / bb ^ t)),lim_top_add _ _ _ _ hj,lim_top_add _ _ _ _ hj,h]
theorem bor_of {a b k : Nat} (h : b % bb ^ k = 0) : bor a b k = 0:=by unfold bor;rw [h];simp
theorem car_of {a b k : Nat} (h : b % bb ^ k = 0) : car a b k = 0:=by
  unfold car;rw [h,Nat.add_zero];exact Nat.div_eq_of_lt (Nat.mod_lt _ (bb_pow_pos k))

def cy (D v i : Nat) : Nat:=D * (v % bb ^ i) / bb ^ i
theorem cy_zero (D v : Nat) : cy D v 0 = 0:=by unfold cy;simp [Nat.mod_one]
theorem cy_lim (D v i : Nat) : (D * lim v i + cy D v i) % bb = lim (D * v) i:=by
  unfold cy
  have e : D * v = D * (v % bb ^ i) + bb ^ i * (D * (v / bb ^ i)):=by
    have:=Nat.div_add_mod v (bb ^ i)
    rw [Nat.mul_left_comm,<- Nat.mul_add]
    rw [Nat.add_comm,this]
  conv=>rhs;unfold lim;rw [e,Nat.add_mul_div_left _ _ (bb_pow_pos i)]
  unfold lim
  rw [Nat.add_comm,Nat.add_mod,Nat.mul_mod_mod,<- Nat.add_mod]
theorem cy_succ (D v i : Nat) : (D * lim v i + cy D v i) / bb = cy D v (i + 1):=by
  unfold cy
  rw [mod_pow_succ,Nat.mul_add,Nat.mul_left_comm D (bb ^ i),Nat.pow_succ,<- Nat.div_div_eq_div_mul,Nat.add_mul_div_left _ _ (bb_pow_pos i),Nat.add_comm]
theorem cy_lt (D v i : Nat) (hD : 0 < D) : cy D v i < D:=by
  unfold cy
  rw [Nat.div_lt_iff_lt_mul (bb_pow_pos i)]
  exact Nat.mul_lt_mul_of_pos_left (Nat.mod_lt _ (bb_pow_pos i)) hD
theorem cy_le (D v i : Nat) : cy D v i <= D:=by
  by_cases h : 0 < D
  · exact Nat.le_of_lt (cy_lt D v i h)
  · have : D = 0:=by omega
    subst this;unfold cy;simp
theorem cy_top {D v s : Nat} (hv : v < bb ^ s) (hD : D < bb) : cy D v s = lim (D * v) s:=by
  have h : D * v < bb ^ (s + 1):=by
    rw [Nat.pow_succ,Nat.mul_comm]
    rcases Nat.eq_zero_or_pos v with rfl | hp
    · rw [Nat.zero_mul];exact Nat.mul_pos (bb_pow_pos _) bb_pos
    · exact Nat.lt_of_le_of_lt (Nat.mul_le_mul_left _ (Nat.le_of_lt hD)) (Nat.mul_lt_mul_of_pos_right hv bb_pos)
  unfold cy lim
  rw [Nat.mod_eq_of_lt hv,Nat.mod_eq_of_lt]
  rw [Nat.div_lt_iff_lt_mul (bb_pow_pos _),Nat.mul_comm bb,<- Nat.pow_succ];exact h

def tk (X D v c s : Nat) : Nat:=X + bb ^ (c + s + 1) - D * v * bb ^ c
section
variable {X D v c s : Nat}
theorem dv_lt (hv : v < bb ^ s) (hD : D < bb) : D * v * bb ^ c < bb ^ (c + s + 1):=by
  rw [show c + s + 1 = (s + 1) + c by omega,Nat.pow_add]
  refine Nat.mul_lt_mul_of_pos_right ?_ (bb_pow_pos c)
  rw [Nat.pow_succ,Nat.mul_comm]
  rcases Nat.eq_zero_or_pos v with rfl | hp
  · rw [Nat.zero_mul];exact Nat.mul_pos (bb_pow_pos _) bb_pos
  · exact Nat.lt_of_le_of_lt (Nat.mul_le_mul_left _ (Nat.le_of_lt hD)) (Nat.mul_lt_mul_of_pos_right hv bb_pos)
theorem tk_lim (hv : v < bb ^ s) (hD : D < bb) (i : Nat) (hi : i <= s) : lim (tk X D v c s) (c + i) = (lim X (c + i) + bb - lim (D * v) i - bor (X + bb ^ (c + s + 1)) (D * v * bb ^ c) (c + i)) % bb:=by
  have h:=dv_lt (c:=c) hv hD
  unfold tk
  rw [lim_sub _ _ _ (by omega),lim_shift]
  have:=lim_top_add X 1 (c + s + 1) (c + i) (by omega)
  rw [Nat.mul_one] at this
  rw [this]
theorem tk_bor (i : Nat) (hi : i <= s) : bor (X + bb ^ (c + s + 1)) (D * v * bb ^ c) (c + (i + 1)) = 1 - (lim X (c + i) + bb - lim (D * v) i - bor (X + bb ^ (c + s + 1)) (D * v * bb ^ c) (c + i)) / bb:=by
  rw [<- Nat.add_assoc,bor_succ,lim_shift]
  have:=lim_top_add X 1 (c + s + 1) (c + i) (by omega)
  rw [Nat.mul_one] at this
  rw [this]
theorem tk_bor0 : bor (X + bb ^ (c + s + 1)) (D * v * bb ^ c) (c + 0) = 0:=bor_of (mod_shift _ _)
theorem tk_low (hv : v < bb ^ s) (hD : D < bb) (j : Nat) (hj : j < c) : lim (tk X D v c s) j = lim X j:=by
  have h:=dv_lt (c:=c) hv hD
  refine lim_lo _ _ c ?_ j hj
  unfold tk
  have e : X + bb ^ (c + s + 1) = (X + bb ^ (c + s + 1) - D * v * bb ^ c) + bb ^ c * (D * v):=by rw [Nat.mul_comm (bb ^ c)];omega
  have e2 : (X + bb ^ (c + s + 1)) % bb ^ c = X % bb ^ c:=by rw [show c + s + 1 = c + (s + 1) by omega,Nat.pow_add,Nat.add_mul_mod_self_left]
  rw [<- e2]
  conv=>rhs;rw [e,Nat.add_mul_mod_self_left]
theorem tk_over (hv : v < bb ^ s) (hD : D < bb) (hX : X < bb ^ (c + s + 1)) : bor (X + bb ^ (c + s + 1)) (D * v * bb ^ c) (c + s + 1) = if X / bb ^ c < D * v then 1 else 0:=by
  unfold bor
  rw [Nat.add_mod_right,Nat.mod_eq_of_lt hX,Nat.mod_eq_of_lt (dv_lt hv hD)]
  have : X < D * v * bb ^ c ↔ X / bb ^ c < D * v:=(Nat.div_lt_iff_lt_mul (bb_pow_pos c)).symm
  simp only [this]
theorem tk_ok (h : D * v * bb ^ c <= X) (j : Nat) (hj : j < c + s + 1) : lim (tk X D v c s) j = lim (X - D * v * bb ^ c) j:=by
  unfold tk
  rw [show X + bb ^ (c + s + 1) - D * v * bb ^ c = (X - D * v * bb ^ c) + bb ^ (c + s + 1) * 1 by omega]
  exact lim_top_add _ _ _ _ hj
theorem tk_back (hD0 : 0 < D) (hv : v < bb ^ s) (hD : D < bb) (h : (D - 1) * v * bb ^ c <= X) : tk X D v c s + v * bb ^ c = X - (D - 1) * v * bb ^ c + bb ^ (c + s + 1) * 1:=by
  have h1:=dv_lt (c:=c) hv hD
  unfold tk
  obtain ⟨d,rfl⟩ : ∃ d,D = d + 1:=⟨D - 1,by omega⟩
  rw [Nat.add_sub_cancel] at h ⊢
  rw [Nat.add_mul,Nat.one_mul,Nat.add_mul] at h1 ⊢
  omega
theorem bk_lim (_hv : v < bb ^ s) (i : Nat) (_hi : i <= s) (Y : Nat) : lim (Y + v * bb ^ c) (c + i) = (lim Y (c + i) + lim v i + car Y (v * bb ^ c) (c + i)) % bb:=by
  rw [lim_add,lim_shift]
theorem bk_car (i : Nat) (Y : Nat) : car Y (v * bb ^ c) (c + (i + 1)) = (lim Y (c + i) + lim v i + car Y (v * bb ^ c) (c + i)) / bb:=by
  rw [<- Nat.add_assoc,car_succ,lim_shift]
theorem bk_car0 (Y : Nat) : car Y (v * bb ^ c) (c + 0) = 0:=car_of (mod_shift _ _)
theorem bk_low (Y : Nat) (j : Nat) (hj : j < c) : lim (Y + v * bb ^ c) j = lim Y j:=by
  refine lim_lo _ _ c ?_ j hj
  rw [Nat.mul_comm,Nat.add_mul_mod_self_left]
end
end Go.Proofs.YtpbegoflpfdajaaGreatDoor

/- Plain arithmetic: a long division, digit by digit. -/
namespace Go.Proofs.YtpbegoflpfdajaaGreatDoor

def rem (M v k : Nat) : Nat:=M % (v * bb ^ k)
theorem rem_zero (M v : Nat) : rem M v 0 = M % v:=by unfold rem;simp
theorem rem_succ (M v c : Nat) : rem M v (c + 1) = rem M v c + lim (M / v) c * v * bb ^ c:=by
  unfold rem lim
  rw [Nat.pow_succ,<- Nat.mul_assoc,Nat.mod_mul,Nat.div_div_eq_div_mul,Nat.mul_comm (v * bb ^ c),Nat.mul_assoc _ v]
theorem rem_lt {v : Nat} (hv : 0 < v) (M c : Nat) : rem M v c < v * bb ^ c:=Nat.mod_lt _ (Nat.mul_pos hv (bb_pow_pos c))
theorem rem_all {M v k : Nat} (h : M < v * bb ^ k) : rem M v k = M:=Nat.mod_eq_of_lt h
section
variable {M v c s D : Nat}
theorem rem_digit (hv : 0 < v) : rem M v (c + 1) / bb ^ c / v = lim (M / v) c:=by
  have h:=rem_lt hv M c
  rw [rem_succ,Nat.mul_assoc,Nat.div_div_eq_div_mul,Nat.mul_comm (bb ^ c) v,Nat.add_mul_div_right _ _ (Nat.mul_pos hv (bb_pow_pos c)),Nat.div_eq_of_lt h,Nat.zero_add]
theorem rem_rest (hv : 0 < v) : rem M v (c + 1) / bb ^ c < v * bb:=by
  have h:=rem_lt hv M (c + 1)
  rw [Nat.div_lt_iff_lt_mul (bb_pow_pos c),Nat.mul_assoc,Nat.mul_comm bb,<- Nat.pow_succ];exact h
theorem rem_small (hv0 : 0 < v) (hv : v < bb ^ s) : rem M v (c + 1) < bb ^ (c + s + 1):=by
  have h:=rem_lt hv0 M (c + 1)
  refine Nat.lt_trans h ?_
  rw [show c + s + 1 = s + (c + 1) by omega,Nat.pow_add bb s]
  exact Nat.mul_lt_mul_of_pos_right hv (bb_pow_pos _)
theorem guess_q {R : Nat} (hv : 0 < v) (h1 : D * v <= R + v) (h2 : R < (D + 1) * v) : D = R / v ∨ D = R / v + 1:=by
  have e:=Nat.div_add_mod R v
  have l:=Nat.mod_lt R hv
  have h3 : R / v < D + 1:=(Nat.div_lt_iff_lt_mul hv).2 h2
  have h4 : D <= R / v + 1:=by
    apply Nat.le_of_not_lt;intro hlt
    have : (R / v + 2) * v <= D * v:=Nat.mul_le_mul_right _ hlt
    rw [Nat.add_mul,Nat.mul_comm (R / v)] at this
    omega
  omega
theorem digit_ok (hv : 0 < v) (h : D = lim (M / v) c) : ¬ rem M v (c + 1) / bb ^ c < D * v/\D * v * bb ^ c <= rem M v (c + 1)/\rem M v (c + 1) - D * v * bb ^ c = rem M v c:=by
  subst h
  have e:=rem_succ M v c
  refine ⟨?_,by omega,by omega⟩
  rw [<- rem_digit hv,Nat.not_lt]
  exact Nat.div_mul_le_self _ _
theorem digit_over (hv : 0 < v) (h : D = lim (M / v) c + 1) : rem M v (c + 1) / bb ^ c < D * v/\(D - 1) * v * bb ^ c <= rem M v (c + 1)/\rem M v (c + 1) - (D - 1) * v * bb ^ c = rem M v c/\0 < D:=by
  subst h
  have e:=rem_succ M v c
  refine ⟨?_,by rw [Nat.add_sub_cancel];omega,by rw [Nat.add_sub_cancel];omega,by omega⟩
  rw [<- rem_digit hv]
  exact Nat.lt_mul_of_div_lt (Nat.lt_succ_self _) hv
end
theorem div_scale (m o d : Nat) (hd : 0 < d) : m * d / (o * d) = m / o:=Nat.mul_div_mul_right _ _ hd
theorem mod_scale (m o d : Nat) (hd : 0 < d) : m * d % (o * d) / d = m % o:=by
  rw [Nat.mul_mod_mul_right,Nat.mul_div_cancel _ hd]
theorem scale_lt {o s : Nat} (hs : 1 <= s) (ho : o < bb ^ s) : o * (bb / (lim o (s - 1) + 1)) < bb ^ s:=by
  obtain ⟨k,rfl⟩ : ∃ k,s = k + 1:=⟨s - 1,by omega⟩
  rw [Nat.add_sub_cancel]
  have h2 : o / bb ^ k < bb:=(Nat.div_lt_iff_lt_mul (bb_pow_pos _)).2 (by rw [Nat.mul_comm,<- Nat.pow_succ];exact ho)
  have h3 : lim o k = o / bb ^ k:=by unfold lim;exact Nat.mod_eq_of_lt h2
  rw [h3]
  have h4 : o < (o / bb ^ k + 1) * bb ^ k:=Nat.lt_mul_of_div_lt (Nat.lt_succ_self _) (bb_pow_pos k)
  have h5 : (o / bb ^ k + 1) * (bb / (o / bb ^ k + 1)) <= bb:=Nat.mul_div_le _ _
  have hp : 0 < bb / (o / bb ^ k + 1):=Nat.div_pos h2 (by omega)
  calc o * (bb / (o / bb ^ k + 1)) < (o / bb ^ k + 1) * bb ^ k * (bb / (o / bb ^ k + 1)):=Nat.mul_lt_mul_of_pos_right h4 hp
    _ = (o / bb ^ k + 1) * (bb / (o / bb ^ k + 1)) * bb ^ k:=by rw [Nat.mul_right_comm]
    _ <= bb * bb ^ k:=Nat.mul_le_mul_right _ h5
    _ = bb ^ (k + 1):=by rw [Nat.mul_comm,<- Nat.pow_succ]
theorem scale_pos {o k : Nat} : 0 < bb / (lim o k + 1):=Nat.div_pos (by have:=lim_lt o k;omega) (by omega)
end Go.Proofs.YtpbegoflpfdajaaGreatDoor

namespace Go.Proofs.YtpbegoflpfdajaaGreatDoor
open Go.RowKit

structure Oth (g : Nat) (w w' : World) : Prop where
  os : w'.os = w.os
  tape : w'.tape = w.tape
  output : w'.output = w.output
  size : w'.heap.size = w.heap.size
  block : ∀ k,k ≠ g->w'.heap[k]? = w.heap[k]?
theorem Oth.refl (g : Nat) (w : World) : Oth g w w:=⟨rfl,rfl,rfl,rfl,fun _ _=>rfl⟩
theorem Oth.drewN {g n : Nat} {w w' : World} (h : Oth g w w') : Oth g w (w'.drewN n):=⟨h.os,h.tape,h.output,h.size,h.block⟩
theorem Oth.trans {g : Nat} {a b c : World} (h : Oth g a b) (k : Oth g b c) : Oth g a c:=⟨k.os.trans h.os,k.tape.trans h.tape,k.output.trans h.output,k.size.trans h.size,fun i hi=>(k.block i hi).trans (h.block i hi)⟩
theorem Oth.set {g : Nat} {w w' : World} (h : Oth g w w') (o : Nat) (v : Value) : Oth g w (w'.setCell ⟨g,o,none⟩ v):=⟨h.os,h.tape,h.output,by simp [h.size],fun k hk=>(Below.heap_setCell _ _ _ k hk).trans (h.block k hk)⟩
theorem Oth.cell {g : Nat} {w w' : World} (h : Oth g w w') {p : Addr} (hp : p.block ≠ g) : w'.cell? p = w.cell? p:=World.cell?_of_block (w:=w) (h.block p.block hp)
theorem Oth.frozen {g : Nat} {w w' : World} (h : Oth g w w') {p : Addr} (hp : p.block ≠ g) : w'.frozen? p = w.frozen? p:=World.frozen?_of_block (w:=w) (h.block p.block hp)
theorem Oth.below {B g : Nat} {w w' : World} (h : Oth g w w') (hg : B <= g) : Below B w w':=⟨h.os,h.tape,h.output,Nat.le_of_eq h.size.symm,fun k hk=>h.block k (by omega)⟩
theorem Oth.range {g b o : Nat} {cs : List Value} {w w' : World} (h : Oth g w w') (hb : b ≠ g) (hr : w.rangeAt b o cs) : w'.rangeAt b o cs:=fun j v hv=>by
  rw [h.cell (p:=⟨b,o + j,none⟩) hb];exact hr j v hv
theorem Oth.there {g b o n : Nat} {w w' : World} (h : Oth g w w') (hb : b ≠ g) (ht : w.there b o n) : w'.there b o n:=fun j hj=>by
  rw [h.cell (p:=⟨b,o + j,none⟩) hb,h.frozen (p:=⟨b,o + j,none⟩) hb];exact ht j hj

def Xs (X Y k g : Nat) (w : World) : Prop:=∀ j,j < 31->w.cell? ⟨g,j,none⟩ = some (.int .u32 (if j < k then lim Y j else lim X j))/\w.frozen? ⟨g,j,none⟩ = false
theorem Xs.at {X Y k g : Nat} {w : World} (h : Xs X Y k g w) {j : Nat} (hj : j < 31) (hk : k <= j) : w.cell? ⟨g,j,none⟩ = some (.int .u32 (lim X j)):=by
  have:=(h j hj).1
  rwa [if_neg (by omega)] at this
theorem Xs.fr {X Y k g : Nat} {w : World} (h : Xs X Y k g w) {j : Nat} (hj : j < 31) : w.frozen? ⟨g,j,none⟩ = false:=(h j hj).2
theorem Xs.drewN {X Y k g n : Nat} {w : World} (h : Xs X Y k g w) : Xs X Y k g (w.drewN n):=h
theorem Xs.oth {X Y k g b : Nat} {w w' : World} (h : Xs X Y k g w) (ho : Oth b w w') (hb : g ≠ b) : Xs X Y k g w':=fun j hj=>by
  rw [ho.cell (p:=⟨g,j,none⟩) hb,ho.frozen (p:=⟨g,j,none⟩) hb];exact h j hj
theorem Xs.set {X Y k g : Nat} {w : World} (h : Xs X Y k g w) (hk : k < 31) : Xs X Y (k + 1) g (w.setCell ⟨g,k,none⟩ (.int .u32 (lim Y k))):=fun j hj=>by
  obtain ⟨h1,h2⟩:=h j hj
  by_cases he : j = k
  · subst he
    constructor
    · rw [World.cell?_setCell_same _ _ _ h1]
      rw [if_pos (by omega)]
    · simpa using h2
  · constructor
    · rw [World.cell?_setCell_other _ _ _ _ (by intro hh;injection hh with a b;exact he b.symm)]
      rw [h1]
      congr 2
      by_cases h3 : j < k
      · rw [if_pos h3,if_pos (by omega)]
      · rw [if_neg h3,if_neg (by omega)]
    · simpa using h2
theorem Xs.set' {X Y k g : Nat} {w : World} (h : Xs X Y k g w) (hk : k < 31) {u : Int} (hu : u = (lim Y k : Nat)) : Xs X Y (k + 1) g (w.setCell ⟨g,k,none⟩ (.int .u32 u)):=by
  subst hu;exact h.set hk
theorem Xs.start {X Y c g : Nat} {w : World} (h : Xs X X 0 g w) (hl : ∀ j,j < c->lim Y j = lim X j) : Xs X Y c g w:=fun j hj=>by
  obtain ⟨h1,h2⟩:=h j hj
  refine ⟨?_,h2⟩
  rw [h1]
  congr 2
  by_cases h3 : j < c
  · rw [if_pos h3,if_neg (by omega),hl j h3]
  · rw [if_neg h3,if_neg (by omega)]
theorem Xs.all {X Y Z k g : Nat} {w : World} (h : Xs X Y k g w) (h1 : ∀ j,j < 31->j < k->lim Y j = lim Z j) (h2 : ∀ j,j < 31->k <= j->lim X j = lim Z j) : Xs Z Z 0 g w:=fun j hj=>by
  obtain ⟨e1,e2⟩:=h j hj
  refine ⟨?_,e2⟩
  rw [e1]
  congr 2
  by_cases h3 : j < k
  · rw [if_pos h3,if_neg (by omega),h1 j hj h3]
  · rw [if_neg h3,if_neg (by omega),h2 j hj (by omega)]
end Go.Proofs.YtpbegoflpfdajaaGreatDoor

namespace Go.Proofs.YtpbegoflpfdajaaGreatDoor
open Go.RowKit

set_option maxHeartbeats 1000000 in
theorem addBack_any (Y v c s g h cp cq : Nat) (hs : c + s <= 30) (hv : v < bb ^ s) (hgh : h ≠ g) (w : World) (hx : Xs Y Y 0 g w) (hd : ∀ i,i < s->w.cell? ⟨h,i,none⟩ = some (.int .u32 (lim v i))) :
    Calls Tryz.prog 214 #[.slice (some ⟨g,c,none⟩) (31 - c : Nat) cp,.slice (some ⟨h,0,none⟩) s cq] w fun e w'=>e = .returned (.tuple #[])/\Xs Y (Y + v * bb ^ c) (c + s + 1) g w'/\Oth g w w':=by
  have hd0:=lim_of_lt hv
  have hx':=hx.start (c:=c) (bk_low (v:=v) Y)
  have fl:=fun i hi=>bk_lim (c:=c) hv i hi Y
  have fc:=fun i=>bk_car (c:=c) (v:=v) i Y
  have f0:=bk_car0 (v:=v) (c:=c) Y
  obtain ⟨V,hV⟩ : ∃ V,v * bb ^ c = V:=⟨_,rfl⟩
  rw [hV] at hx' f0 ⊢
  simp only [hV] at fl fc
  have Hd:=Lib.hid hd;have Hx:=Lib.hid hx';have FL:=Lib.hid fl;have FC:=Lib.hid fc;have F0:=Lib.hid f0;have H0:=Lib.hid hd0
  clear hx hd hv hV fl fc f0 hx' hd0
  go_enter Tryz.func214,Tryz.ntmps214
  go_wp2
  go_loopw [4,9] (fun cr i wr=>∃ k : Nat,k <= s/\i = .int .i64 k/\cr = .int .u32 (car Y V (c + k))/\Xs Y (Y + V) (c + k) g wr/\Oth g w wr) (fun _ i _=>s - (intOf i).toNat)
  case atStart=>exact ⟨0,by omega,rfl,by rw [F0.out];rfl,Hx.out,Oth.refl _ _⟩
  case round =>
    obtain ⟨k,hk,rfl,rfl,hX,hO⟩:=hrel
    by_cases hlt : k < s
    · have c1:=hX.at (j:=c + k) (by omega) (Nat.le_refl _)
      have c2:=(hO.cell (p:=⟨h,k,none⟩) hgh).trans (Hd.out k hlt)
      have f1:=hX.fr (j:=c + k) (by omega)
      have b1:=lim_lt' Y (c + k)
      have b2:=lim_lt' v k
      have b3:=car_le Y V (c + k)
      have e1:=FL.out k hk
      have e2:=FC.out k
      rw [show bb = 1000000000 from rfl] at e1 e2
      have HX:=Lib.hid hX;have HO:=Lib.hid hO
      clear hX hO
      generalize lim Y (c + k) = p at *
      generalize lim v k = q at *
      generalize car Y V (c + k) = cr at *
      have E2:=Lib.hid e2
      have E1:=Lib.hid e1
      clear e1 e2
      go_wp2_with fail
      go_quiet (fail)
      go_wp2
      go_roundw
      case rel =>
        refine ⟨k + 1,by omega,by go_num,?_,?_,?_⟩
        · rw [E2.out];exact int_v (by omega)
        · refine (HX.out.set' (by omega) ?_).drewN
          rw [E1.out];omega
        · exact (HO.out.set _ _).drewN
      case measure=>simp [intOf];omega
    · have he : k = s:=by omega
      subst he
      have c1:=hX.at (j:=c + k) (by omega) (Nat.le_refl _)
      have f1:=hX.fr (j:=c + k) (by omega)
      have b1:=lim_lt' Y (c + k)
      have b3:=car_le Y V (c + k)
      have e1:=FL.out k hk
      rw [H0.out] at e1
      rw [show bb = 1000000000 from rfl] at e1
      have HX:=Lib.hid hX;have HO:=Lib.hid hO
      clear hX hO
      generalize lim Y (c + k) = p at *
      generalize car Y V (c + k) = cr at *
      have E1:=Lib.hid e1
      clear e1
      go_wp2
      go_end0
      refine ⟨rfl,?_,HO.out.set _ _⟩
      refine HX.out.set' (by omega) ?_
      rw [E1.out];omega
end Go.Proofs.YtpbegoflpfdajaaGreatDoor

namespace Go.Proofs.YtpbegoflpfdajaaGreatDoor
open Go.RowKit

set_option maxHeartbeats 2000000 in
theorem subProd_any (X D v c s g h cp cq : Nat) (hs : c + s <= 30) (hv : v < bb ^ s) (hD : D < bb) (hX0 : X < bb ^ (c + s + 1)) (hgh : h ≠ g) (w : World) (hx : Xs X X 0 g w) (hd : ∀ i,i < s->w.cell? ⟨h,i,none⟩ = some (.int .u32 (lim v i))) :
    Calls Tryz.prog 213 #[.slice (some ⟨g,c,none⟩) (31 - c : Nat) cp,.slice (some ⟨h,0,none⟩) s cq,.int .u64 D] w fun e w'=>e = .returned (.bool (decide (X / bb ^ c < D * v)))/\Xs X (tk X D v c s) (c + s + 1) g w'/\Oth g w w':=by
  have hx':=hx.start (c:=c) (tk_low (X:=X) hv hD)
  have fl:=fun i hi=>tk_lim (X:=X) (c:=c) hv hD i hi
  have fb:=fun i hi=>tk_bor (X:=X) (D:=D) (v:=v) (c:=c) (s:=s) i hi
  have f0:=tk_bor0 (X:=X) (D:=D) (v:=v) (c:=c) (s:=s)
  have fo:=tk_over (X:=X) hv hD hX0
  have ct:=cy_top hv hD
  obtain ⟨V,hV⟩ : ∃ V,D * v * bb ^ c = V:=⟨_,rfl⟩
  obtain ⟨A,hA⟩ : ∃ A,X + bb ^ (c + s + 1) = A:=⟨_,rfl⟩
  obtain ⟨Y,hY⟩ : ∃ Y,tk X D v c s = Y:=⟨_,rfl⟩
  obtain ⟨b,hb⟩ : ∃ b,decide (X / bb ^ c < D * v) = b:=⟨_,rfl⟩
  rw [hY] at hx' ⊢
  rw [hA,hV] at f0 fo
  simp only [hV,hA,hY] at fl fb
  rw [hb]
  have fo' : bor A V (c + s + 1) = if b = true then 1 else 0:=by rw [fo,<- hb];simp
  have Hd:=Lib.hid hd;have Hx:=Lib.hid hx';have FL:=Lib.hid fl;have FB:=Lib.hid fb;have F0:=Lib.hid f0;have FO:=Lib.hid fo';have CT:=Lib.hid ct
  have CL:=Lib.hid (cy_lim D v);have CS:=Lib.hid (cy_succ D v);have CE:=Lib.hid (cy_le D v);have C0:=Lib.hid (cy_zero D v)
  have hD9 : D < 1000000000:=hD
  clear hx hd hv hV hA hY hb fl fb f0 fo fo' ct hx' hD hX0
  go_enter Tryz.func213,Tryz.ntmps213
  go_wp2
  go_loopw [7,8,15] (fun cr br i wr=>∃ k : Nat,k <= s/\i = .int .i64 k/\cr = .int .u64 (cy D v k)/\br = .int .u32 (bor A V (c + k))/\Xs X Y (c + k) g wr/\Oth g w wr) (fun _ _ i _=>s - (intOf i).toNat)
  case atStart=>exact ⟨0,by omega,rfl,by rw [C0.out];rfl,by rw [F0.out];rfl,Hx.out,Oth.refl _ _⟩
  case round =>
    obtain ⟨k,hk,rfl,rfl,rfl,hX,hO⟩:=hrel
    by_cases hlt : k < s
    · have c1:=hX.at (j:=c + k) (by omega) (Nat.le_refl _)
      have c2:=(hO.cell (p:=⟨h,k,none⟩) hgh).trans (Hd.out k hlt)
      have f1:=hX.fr (j:=c + k) (by omega)
      have b1:=lim_lt' X (c + k)
      have b2:=lim_lt' v k
      have b3:=bor_le A V (c + k)
      have b4:=lim_lt' (D * v) k
      have b5:=CE.out k
      have e1:=FL.out k hk
      have e2:=FB.out k hk
      have e3:=CL.out k
      have e4:=CS.out k
      rw [show bb = 1000000000 from rfl] at e1 e2 e3 e4
      have HX:=Lib.hid hX;have HO:=Lib.hid hO
      clear hX hO
      generalize lim X (c + k) = p at *
      generalize lim v k = q at *
      generalize bor A V (c + k) = br at *
      generalize lim (D * v) k = dv at *
      generalize cy D v k = cr at *
      have m1 : D * q <= 999999999 * 999999999:=Nat.mul_le_mul (by omega) (by omega)
      obtain ⟨M,hM⟩ : ∃ M,D * q = M:=⟨_,rfl⟩
      have hMi : (D : Int) * (q : Int) = (M : Int):=by rw [<- hM];simp
      rw [hM] at m1 e3 e4
      have E2:=Lib.hid e2
      have E1:=Lib.hid e1
      have E3:=Lib.hid e3
      have E4:=Lib.hid e4
      clear e1 e2 e3 e4 hM
      go_wp2
      refine ⟨⟨k + 1,by omega,by go_num,?_,?_,?_,HO.out.set _ _⟩,by simp [intOf];omega⟩
      · rw [<- E4.out];exact int_v (by omega)
      · rw [E2.out];have:=E3.out;exact int_v (by omega)
      · refine HX.out.set' (by omega) ?_
        have:=E3.out
        rw [E1.out];omega
    · have he : k = s:=by omega
      subst he
      have c1:=hX.at (j:=c + k) (by omega) (Nat.le_refl _)
      have f1:=hX.fr (j:=c + k) (by omega)
      have b1:=lim_lt' X (c + k)
      have b3:=bor_le A V (c + k)
      have b4:=lim_lt' (D * v) k
      have e1:=FL.out k (Nat.le_refl _)
      have e2:=FB.out k (Nat.le_refl _)
      rw [show c + (k + 1) = c + k + 1 from rfl,FO.out] at e2
      rw [CT.out]
      rw [show bb = 1000000000 from rfl] at e1 e2
      have HX:=Lib.hid hX;have HO:=Lib.hid hO
      clear hX hO
      generalize lim X (c + k) = p at *
      generalize bor A V (c + k) = br at *
      generalize lim (D * v) k = dv at *
      have E2:=Lib.hid e2
      have E1:=Lib.hid e1
      clear e1 e2
      cases b with
      | true =>
        have t1 : decide ((p : Int) + 1000000000 - (dv : Int) - (br : Int) < 1000000000) = true:=by have:=E2.out;simp at this;simp;omega
        go_wp2
        go_ret
        refine ⟨rfl,?_,HO.out.set _ _⟩
        refine HX.out.set' (by omega) ?_
        rw [E1.out];omega
      | false =>
        have t1 : decide ((p : Int) + 1000000000 - (dv : Int) - (br : Int) < 1000000000) = false:=by have:=E2.out;simp at this;simp;omega
        go_wp2
        go_ret
        refine ⟨rfl,?_,HO.out.set _ _⟩
        refine HX.out.set' (by omega) ?_
        rw [E1.out];omega
end Go.Proofs.YtpbegoflpfdajaaGreatDoor

namespace Go.Proofs.YtpbegoflpfdajaaGreatDoor
open Go.RowKit

@[irreducible] def gm (v : Value) : Nat:=1000000000 - (intOf v).toNat
theorem gm_lt {a b : Nat} (h : a < b) (hb : a < 1000000000) : gm (.int .u64 (b : Nat)) < gm (.int .u64 (a : Nat)):=by
  unfold gm;simp only [intOf];omega
set_option maxHeartbeats 4000000 in
set_option maxRecDepth 20000 in
theorem guess_any (X v c s g h cp cq : Nat) (hs2 : 2 <= s) (hs : c + s <= 30) (hv1 : bb ^ (s - 1) <= v) (hv : v < bb ^ s) (hR : X / bb ^ c < v * bb) (w : World) (hx : Xs X X 0 g w) (hd : ∀ i,i < s->w.cell? ⟨h,i,none⟩ = some (.int .u32 (lim v i))) :
    Calls Tryz.prog 212 #[.slice (some ⟨g,c,none⟩) (31 - c : Nat) cp,.slice (some ⟨h,0,none⟩) s cq] w fun e w'=>∃ D : Nat,e = .returned (.int .u64 D)/\(D < bb/\D * v <= X / bb ^ c + v/\X / bb ^ c < (D + 1) * v)/\∃ n,w' = w.drewN n:=by
  obtain ⟨R,hRe⟩ : ∃ R,X / bb ^ c = R:=⟨_,rfl⟩
  rw [hRe] at hR ⊢
  have l0 : lim X (c + s) = lim R s:=by rw [<- hRe,lim_div]
  have l1 : lim X (c + (s - 1)) = lim R (s - 1):=by rw [<- hRe,lim_div]
  have l2 : lim X (c + (s - 2)) = lim R (s - 2):=by rw [<- hRe,lim_div]
  have c0:=hx.at (j:=c + s) (by omega) (by omega)
  have c1:=hx.at (j:=c + (s - 1)) (by omega) (by omega)
  have c2:=hx.at (j:=c + (s - 2)) (by omega) (by omega)
  have d1:=hd (s - 1) (by omega)
  have d2:=hd (s - 2) (by omega)
  rw [l0] at c0;rw [l1] at c1;rw [l2] at c2
  have tp:=top_pos hs2 hv1 hv
  obtain ⟨H,hH⟩ : ∃ H,H = lim R s * bb + lim R (s - 1):=⟨_,rfl⟩
  have gf:=Guess.first hs2 hv1 hv hR hH
  have gbig:=fun D o=>Guess.big (D:=D) (over:=o) hs2 hv1 hv hR hH
  have gov:=fun D o=>Guess.over' (D:=D) (over:=o) hs2 hv hR hH
  have gdn:=fun D o=>Guess.done (D:=D) (over:=o) hs2 hv1 hv hR hH
  have gst:=fun D o=>Guess.stop (D:=D) (over:=o) hs2 hv1 hv hR hH
  have gls:=fun D o=>Guess.less (R:=R) (v:=v) (s:=s) (H:=H) (D:=D) (over:=o)
  have b0:=lim_lt' R s
  have b1:=lim_lt' R (s - 1)
  have b2:=lim_lt' R (s - 2)
  have b3:=lim_lt' v (s - 1)
  have b4:=lim_lt' v (s - 2)
  obtain ⟨a,ha⟩ : ∃ a,s - 1 = a:=⟨_,rfl⟩
  obtain ⟨b,hb⟩ : ∃ b,s - 2 = b:=⟨_,rfl⟩
  rw [ha] at c1 d1 tp hH gf b1 b3
  simp only [ha] at gls
  rw [hb] at c2 d2 b2 b4
  simp only [hb] at gov gdn
  have i1 : (s : Int) - 1 = (a : Int):=by omega
  have i2 : (s : Int) - 2 = (b : Int):=by omega
  have has : a < s:=by omega
  have hbs : b < s:=by omega
  have GB:=Lib.hid gbig;have GO:=Lib.hid gov;have GD:=Lib.hid gdn;have GS:=Lib.hid gst;have GL:=Lib.hid gls;have GF:=Lib.hid gf;have HH:=Lib.hid hH
  clear gbig gov gdn gst gls gf hH hx hd l0 l1 l2 hRe hR hv hv1 ha hb
  rw [show bb = 1000000000 from rfl] at *
  have hh:=HH.out
  generalize lim R s = r0 at *
  generalize lim R a = r1 at *
  generalize lim R b = r2 at *
  generalize lim v a = va at *
  generalize lim v b = vb at *
  have hH9 : H <= 999999999999999999:=by omega
  have hq:=Nat.div_le_self H va
  have hm:=Nat.mod_lt H tp
  have va0 : (0 : Int) < (va : Int):=by omega
  have va1 : ((va : Int) == 0) = false:=by simp;omega
  have hHi : (r0 : Int) * 1000000000 + (r1 : Int) = (H : Int):=by omega
  have HHi:=Lib.hid hHi
  obtain ⟨Q0,hQ0⟩ : ∃ Q,H / va = Q:=⟨_,rfl⟩
  obtain ⟨M0,hM0⟩ : ∃ Q,H % va = Q:=⟨_,rfl⟩
  have hqi : (H : Int) / (va : Int) = (Q0 : Int):=by rw [<- hQ0];simp
  have hmi : (H : Int) % (va : Int) = (M0 : Int):=by rw [<- hM0];simp
  rw [hQ0] at hq GF
  rw [hM0] at hm GF
  have hQ2 : Q0 <= 2000000000:=by
    by_cases hb : 1000000000 <= Q0
    · exact (GB.out _ _ GF.out hb).2.2
    · omega
  clear hh HH hQ0 hM0
  go_enter Tryz.func212,Tryz.ntmps212
  go_wp2_with fail
  go_step3
  go_wp2_with fail
  go_quiet (fail)
  go_wp2_with fail
  go_step3
  go_wp2_with fail
  go_loopw [7,8] (fun x y wr=>∃ D o n : Nat,x = .int .u64 D/\y = .int .u64 o/\Guess R v s H D o/\D <= 2000000000/\o < 1000000000/\wr = w.drewN n) (fun _ y _=>gm y)
  case atStart=>exact ⟨Q0,M0,_,rfl,by rw [hmi],GF.out,hQ2,by omega,rfl⟩
  case round =>
    obtain ⟨D,o,n,rfl,rfl,hG,hD,ho,rfl⟩:=hrel
    have HG:=Lib.hid hG
    clear hG hqi hmi
    have m1 : D * vb <= 2000000000 * 999999999:=Nat.mul_le_mul hD (by omega)
    obtain ⟨M,hM⟩ : ∃ M,D * vb = M:=⟨_,rfl⟩
    have hMi : (D : Int) * (vb : Int) = (M : Int):=by rw [<- hM];simp
    have go1:=GO.out D o HG.out
    have gd1:=GD.out D o HG.out
    rw [hM] at m1 go1 gd1
    have HM:=Lib.hid hM
    clear hM
    by_cases t : (1000000000 <= D ∨ o * 1000000000 + r2 < M)
    · have hup : R < D * v:=by
        rcases t with t | t
        · exact (GB.out D o HG.out t).1
        · exact go1 t
      obtain ⟨hD0,hG2⟩:=GL.out D o HG.out hup
      have HG2:=Lib.hid hG2
      clear hG2 hup go1 gd1
      by_cases t1 : 1000000000 <= D
      · have td : decide ((D : Int) ≥ 1000000000) = true:=by simp;omega
        by_cases t3 : 1000000000 <= o + va
        · have te : decide ((o : Int) + (va : Int) ≥ 1000000000) = true:=by simp;omega
          go_wp2_with fail
          rw [Exit.noGoto_ret];go_ret
          have hst:=GS.out _ _ HG2.out t3
          exact ⟨D - 1,ret_int (by omega),⟨hst.1,hst.2,HG2.out.up⟩,_,rfl⟩
        · have te : decide ((o : Int) + (va : Int) ≥ 1000000000) = false:=by simp;omega
          go_wp2_with fail
          refine ⟨⟨D - 1,o + va,_,?_,?_,HG2.out,by omega,by omega,rfl⟩,?_⟩
          · exact int_v (by omega)
          · exact int_v (by omega)
          · exact gm_lt (by omega) ho
      · have td : decide ((D : Int) ≥ 1000000000) = false:=by simp;omega
        have tf : decide ((M : Int) > (o : Int) * 1000000000 + (r2 : Int)) = true:=by simp;omega
        by_cases t3 : 1000000000 <= o + va
        · have te : decide ((o : Int) + (va : Int) ≥ 1000000000) = true:=by simp;omega
          go_wp2_with fail
          go_quiet (fail)
          go_wp2_with fail
          rw [Exit.noGoto_ret];go_ret
          have hst:=GS.out _ _ HG2.out t3
          exact ⟨D - 1,ret_int (by omega),⟨hst.1,hst.2,HG2.out.up⟩,_,rfl⟩
        · have te : decide ((o : Int) + (va : Int) ≥ 1000000000) = false:=by simp;omega
          go_wp2_with fail
          go_quiet (fail)
          go_wp2_with fail
          refine ⟨⟨D - 1,o + va,_,?_,?_,HG2.out,by omega,by omega,rfl⟩,?_⟩
          · exact int_v (by omega)
          · exact int_v (by omega)
          · exact gm_lt (by omega) ho
    · have td : decide ((D : Int) ≥ 1000000000) = false:=by simp;omega
      have tf : decide ((M : Int) > (o : Int) * 1000000000 + (r2 : Int)) = false:=by simp;omega
      have hdn:=gd1 (by omega) (by omega)
      have Hdn:=Lib.hid hdn
      clear hdn go1 gd1
      go_wp2_with fail
      go_quiet (fail)
      go_wp2_with fail
      rw [Exit.noGoto_ret];go_ret
      exact ⟨D,rfl,⟨by omega,Hdn.out,HG.out.up⟩,n + nq,by rw [World.drewN_drewN]⟩
end Go.Proofs.YtpbegoflpfdajaaGreatDoor

/- WHAT IS PROVED: contracts of functions of the numbers package and laws for them, used by the last text of this claim. CONDITIONS: stated at each theorem. -/
import Derived.Test.YtpbegoflpfdajaaGreatDoorB33
namespace Go.Proofs.YtpbegoflpfdajaaGreatDoor
open Go.RowKit

theorem both_any (x : ByteArray) (E : Int) (w : World) : Calls Tryz.prog 20 #[.string x,.int .i64 E,.string x,.int .i64 E] w fun e w'=>e = .returned (.bool true)/\w' = w:=by
  go_enter Tryz.func20,Tryz.ntmps20
  go_wp2
  go_ret
  exact ⟨by simp,rfl⟩
def longL (l : List ByteArray) : Bool:=l.any fun s=>decide (300 < s.size)
theorem longL_drop (xs : List ByteArray) (k : Nat) (h : k < xs.length) : longL (xs.drop k) = (decide (300 < (xs[k]).size) || longL (xs.drop (k + 1))):=by
  unfold longL
  rw [List.drop_eq_getElem_cons h,List.any_cons]
set_option maxHeartbeats 1000000 in
theorem long_any (g n c : Nat) (xs : List ByteArray) (hn : xs.length = n) (h63 : n <= 1000) (w : World) (hx : ∀ i (h : i < xs.length),w.cell? ⟨g,i,none⟩ = some (.string xs[i])) :
    Calls Tryz.prog 11 #[.slice (some ⟨g,0,none⟩) n c] w fun e w'=>e = .returned (.bool (longL xs))/\w' = w:=by
  have Hx:=Lib.hid hx;have Hn:=Lib.hid hn
  clear hx hn
  go_enter Tryz.func11,Tryz.ntmps11
  go_wp2
  go_loop [7] (fun i=>∃ k : Nat,i = .int .i64 k/\k <= n/\longL (xs.drop k) = longL xs) (fun i=>n - (intOf i).toNat)
  case atStart=>exact ⟨0,rfl,by omega,rfl⟩
  case round =>
    obtain ⟨k,rfl,hk,hf⟩:=hrel
    have Hf:=Lib.hid hf;clear hf
    by_cases h : k < n
    · have hkx : k < xs.length:=by have:=Hn.out;omega
      have hc:=Hx.out k hkx
      have hs:=longL_drop xs k hkx
      rw [Hf.out] at hs
      obtain ⟨x,hxk⟩ : ∃ x,xs[k] = x:=⟨_,rfl⟩
      rw [hxk] at hc hs
      have d1 : decide ((k : Int) < (n : Int)) = true:=by simp;omega
      by_cases h0 : 300 < x.size
      · rw [decide_eq_true h0,Bool.true_or] at hs
        have d2 : decide ((300 : Int) < (x.size : Int)) = true:=by simp;omega
        have Hs:=Lib.hid hs
        clear hs h0 hxk
        go_wp2
        go_ret
        exact ⟨by rw [Hs.out];rfl,rfl⟩
      · rw [decide_eq_false h0,Bool.false_or] at hs
        have d2 : decide ((300 : Int) < (x.size : Int)) = false:=by simp;omega
        have Hs:=Lib.hid hs
        clear hs h0 hxk
        go_wp2
        go_round
        case rel=>exact ⟨k + 1,by go_num,by omega,Hs.out.symm⟩
        case measure=>simp [intOf];omega
    · obtain rfl : k = n:=by omega
      have d1 : decide ((k : Int) < (k : Int)) = false:=by simp
      have hs:=Hf.out
      rw [List.drop_of_length_le (by have:=Hn.out;omega)] at hs
      have Hs:=Lib.hid hs;clear hs
      go_wp2
      go_ret
      exact ⟨by rw [<- Hs.out];rfl,rfl⟩
end Go.Proofs.YtpbegoflpfdajaaGreatDoor

namespace Go.Proofs.YtpbegoflpfdajaaGreatDoor
open Go.RowKit

def Mg (w : World) (v : Value) (l : List Nat) : Prop :=
  ∃ p c,v = .slice p l.length c/\l.length <= c/\(l ≠ []->∃ g,p = some ⟨g,0,none⟩/\g < w.heap.size/\∀ i (h : i < l.length),w.cell? ⟨g,i,none⟩ = some (.int .i64 (l[i] : Int)))
theorem Mg.keep {w w' : World} {v : Value} {l : List Nat} (h : Mg w v l) (hb : Below w.heap.size w w') : Mg w' v l:=by
  obtain ⟨p,c,rfl,h0,hc⟩:=h
  refine ⟨p,c,rfl,h0,fun hl=>?_⟩
  obtain ⟨g,rfl,hg,hx⟩:=hc hl
  exact ⟨g,rfl,Nat.lt_of_lt_of_le hg hb.size,fun i hi=>cell_keep (hx i hi) hb⟩
theorem refLimb_any (v : Value) (l : List Nat) (i : Nat) (_hl : l.length <= 100000) (_hi : i <= 100000) (w : World) (hm : Mg w v l) : Calls Tryz.prog 152 #[v,.int .i64 i] w fun e w'=>e = .returned (.int .i64 ((l.getD i 0 : Nat) : Int))/\w' = w:=by
  obtain ⟨p,c,rfl,_,hc⟩:=hm
  obtain ⟨n,hn⟩ : ∃ n,l.length = n:=⟨_,rfl⟩
  by_cases h : i < l.length
  · obtain ⟨g,rfl,_,hx⟩:=hc (by intro e;rw [e] at h;simp at h)
    have hcell:=hx i h
    have hv : l.getD i 0 = l[i]:=by simp [List.getD,h]
    obtain ⟨x,hx0⟩ : ∃ x,l[i] = x:=⟨_,rfl⟩
    rw [hx0] at hcell hv
    have hd : decide ((i : Int) < (n : Int)) = true:=by simp;omega
    have h2 : i < n:=by omega
    rw [hv,hn]
    clear hc hx hx0 hv
    go_enter Tryz.func152,Tryz.ntmps152
    go_wp2
    go_ret
    exact ⟨rfl,rfl⟩
  · have hd : decide ((i : Int) < (n : Int)) = false:=by simp;omega
    have hv : l.getD i 0 = 0:=by simp [List.getD,List.getElem?_eq_none (by omega : l.length <= i)]
    rw [hv,hn]
    clear hc hv
    go_enter Tryz.func152,Tryz.ntmps152
    go_wp2
    go_ret
    exact ⟨rfl,rfl⟩
end Go.Proofs.YtpbegoflpfdajaaGreatDoor

/- Plain arithmetic: the limbs of a number to the base 10000. -/
namespace Go.Proofs.YtpbegoflpfdajaaGreatDoor.Qd

def bb : Nat:=10000
theorem bb_pos : 0 < bb:=by unfold bb;omega
theorem bb_pow_pos (i : Nat) : 0 < bb ^ i:=Nat.pow_pos bb_pos
def lim (n i : Nat) : Nat:=n / bb ^ i % bb
theorem lim_lt (n i : Nat) : lim n i < bb:=Nat.mod_lt _ bb_pos
theorem lim_lt' (n i : Nat) : lim n i < 10000:=lim_lt n i
theorem mod_pow_succ (n i : Nat) : n % bb ^ (i + 1) = n % bb ^ i + bb ^ i * lim n i:=by
  rw [Nat.pow_succ,Nat.mod_mul];rfl
theorem lim_of_lt {n i : Nat} (h : n < bb ^ i) : lim n i = 0:=by
  unfold lim;rw [Nat.div_eq_of_lt h];rfl
theorem pow_mono {i j : Nat} (h : i <= j) : bb ^ i <= bb ^ j:=Nat.pow_le_pow_right bb_pos h
theorem lim_of_lt' {n i j : Nat} (h : n < bb ^ i) (hij : i <= j) : lim n j = 0:=lim_of_lt (Nat.lt_of_lt_of_le h (pow_mono hij))
theorem lim_zero (i : Nat) : lim 0 i = 0:=by unfold lim;simp
theorem lim_small {n : Nat} (h : n < bb) : lim n 0 = n:=by unfold lim;simp [Nat.mod_eq_of_lt h]
theorem lim_small_succ {n : Nat} (h : n < bb) (i : Nat) : lim n (i + 1) = 0:=lim_of_lt' (i:=1) (by simpa using h) (by omega)
theorem eq_of_mod (a b : Nat) : ∀ k,(∀ i,i < k->lim a i = lim b i)->a % bb ^ k = b % bb ^ k
  | 0,_=>by simp [Nat.mod_one]
  | k + 1,h=>by rw [mod_pow_succ,mod_pow_succ,eq_of_mod a b k (fun i hi=>h i (by omega)),h k (by omega)]
theorem eq_of_lims {a b k : Nat} (ha : a < bb ^ k) (hb : b < bb ^ k) (h : ∀ i,i < k->lim a i = lim b i) : a = b:=by
  have:=eq_of_mod a b k h
  rwa [Nat.mod_eq_of_lt ha,Nat.mod_eq_of_lt hb] at this

def lsz (n : Nat) : Nat:=if h : n = 0 then 0 else lsz (n / bb) + 1
  termination_by n
  decreasing_by unfold bb;omega
theorem lsz_zero : lsz 0 = 0:=by rw [lsz];simp
theorem lsz_pos {n : Nat} (h : n ≠ 0) : lsz n = lsz (n / bb) + 1:=by rw [lsz];simp [h]
theorem lsz_le_iff : ∀ k n : Nat,lsz n <= k ↔ n < bb ^ k
  | 0,n=>by
    by_cases h : n = 0
    · subst h;simp [lsz_zero]
    · rw [lsz_pos h];simp;omega
  | k + 1,n=>by
    by_cases h : n = 0
    · subst h;simp [lsz_zero];exact bb_pow_pos _
    · rw [lsz_pos h,Nat.add_le_add_iff_right,lsz_le_iff k,Nat.div_lt_iff_lt_mul bb_pos,Nat.pow_succ]
theorem lsz_lt (n : Nat) : n < bb ^ lsz n:=(lsz_le_iff _ n).1 (Nat.le_refl _)
theorem lsz_down {n j : Nat} (h : n < bb ^ (j + 1)) (hz : lim n j = 0) : n < bb ^ j:=by
  have:=mod_pow_succ n j
  rw [Nat.mod_eq_of_lt h,hz] at this
  have h2:=Nat.mod_lt n (bb_pow_pos j)
  omega
theorem lsz_stop {n j : Nat} (hz : lim n j ≠ 0) : j < lsz n:=by
  apply Nat.lt_of_not_le;intro h
  exact hz (lim_of_lt ((lsz_le_iff _ _).1 h))
theorem lsz_top {n : Nat} (h : n ≠ 0) : bb ^ (lsz n - 1) <= n:=by
  apply Nat.le_of_not_lt;intro hl
  have:=(lsz_le_iff _ _).2 hl
  have : lsz n ≠ 0:=by rw [lsz_pos h];omega
  omega
theorem lim_top {n : Nat} (h : n ≠ 0) : lim n (lsz n - 1) ≠ 0:=by
  intro hz
  have h1 : lsz n ≠ 0:=by rw [lsz_pos h];omega
  have h2:=lsz_lt n
  rw [show lsz n = lsz n - 1 + 1 by omega] at h2
  have h3:=lsz_down h2 hz
  have:=lsz_top h
  omega
theorem lsz_eq_zero {n : Nat} : lsz n = 0 ↔ n = 0:=by
  constructor
  · intro h;have:=lsz_lt n;rw [h] at this;simpa using this
  · intro h;subst h;exact lsz_zero

/-! sums -/
def car (a b k : Nat) : Nat:=(a % bb ^ k + b % bb ^ k) / bb ^ k
theorem car_zero (a b : Nat) : car a b 0 = 0:=by unfold car;simp [Nat.mod_one]
theorem car_le (a b k : Nat) : car a b k <= 1:=by
  unfold car
  have h1:=Nat.mod_lt a (bb_pow_pos k)
  have h2:=Nat.mod_lt b (bb_pow_pos k)
  have : (a % bb ^ k + b % bb ^ k) / bb ^ k < 2:=(Nat.div_lt_iff_lt_mul (bb_pow_pos k)).2 (by omega)
  omega
theorem div_add_car (a b k : Nat) : (a + b) / bb ^ k = a / bb ^ k + b / bb ^ k + car a b k:=by
  unfold car
  have h1:=Nat.div_add_mod a (bb ^ k)
  have h2:=Nat.div_add_mod b (bb ^ k)
  have h3 : a + b = bb ^ k * (a / bb ^ k + b / bb ^ k) + (a % bb ^ k + b % bb ^ k):=by rw [Nat.mul_add];omega
  conv=>lhs;rw [h3]
  rw [Nat.mul_add_div (bb_pow_pos k)]
theorem lim_add (a b k : Nat) : lim (a + b) k = (lim a k + lim b k + car a b k) % bb:=by
  unfold lim
  rw [div_add_car]
  simp [Nat.add_mod]
theorem car_succ (a b k : Nat) : car a b (k + 1) = (lim a k + lim b k + car a b k) / bb:=by
  have h:=div_add_car a b (k + 1)
  have h0:=div_add_car a b k
  simp only [Nat.pow_succ,<- Nat.div_div_eq_div_mul] at h
  rw [h0] at h
  unfold lim
  generalize a / bb ^ k = x at *
  generalize b / bb ^ k = y at *
  generalize car a b k = c at *
  have hx:=Nat.div_add_mod x bb
  have hy:=Nat.div_add_mod y bb
  have h3 : x + y + c = bb * (x / bb + y / bb) + (x % bb + y % bb + c):=by rw [Nat.mul_add];omega
  rw [h3,Nat.mul_add_div bb_pos] at h
  omega

/-! differences -/
def bor (a b k : Nat) : Nat:=if a % bb ^ k < b % bb ^ k then 1 else 0
theorem bor_zero (a b : Nat) : bor a b 0 = 0:=by unfold bor;simp [Nat.mod_one]
theorem bor_le (a b k : Nat) : bor a b k <= 1:=by unfold bor;split <;> omega
theorem bor_succ (a b k : Nat) : bor a b (k + 1) = 1 - (lim a k + bb - lim b k - bor a b k) / bb:=by
  have ha:=mod_pow_succ a k
  have hb:=mod_pow_succ b k
  have la:=lim_lt a k
  have lb:=lim_lt b k
  have h1:=Nat.mod_lt a (bb_pow_pos k)
  have h2:=Nat.mod_lt b (bb_pow_pos k)
  unfold bor
  rw [ha,hb]
  generalize a % bb ^ k = x at *
  generalize b % bb ^ k = y at *
  generalize lim a k = p at *
  generalize lim b k = q at *
  generalize bb ^ k = M at *
  have hB : bb = 10000:=rfl
  rcases Nat.lt_trichotomy p q with h | h | h
  · have : M * p + M <= M * q:=by rw [<- Nat.mul_succ];exact Nat.mul_le_mul_left M h
    rw [if_pos (by omega)]
    split <;> (rw [Nat.div_eq_of_lt (by omega)])
  · subst h
    by_cases hxy : x < y
    · rw [if_pos (by omega),if_pos hxy,Nat.div_eq_of_lt (by omega)]
    · rw [if_neg (by omega),if_neg hxy,show p + bb - p - 0 = bb by omega,Nat.div_self bb_pos]
  · have : M * q + M <= M * p:=by rw [<- Nat.mul_succ];exact Nat.mul_le_mul_left M h
    rw [if_neg (by omega)]
    have : ∀ z,z <= 1->(p + bb - q - z) / bb = 1:=by
      intro z hz
      apply Nat.div_eq_of_lt_le <;> omega
    split
    · rw [this 1 (by omega)]
    · rw [this 0 (by omega)]
theorem lim_sub (a b k : Nat) (h : b <= a) : lim (a - b) k = (lim a k + bb - lim b k - bor a b k) % bb:=by
  -- a = (a - b) + b
  have e:=lim_add (a - b) b k
  rw [Nat.sub_add_cancel h] at e
  have hc : car (a - b) b k = bor a b k:=by
    unfold car bor
    have h1:=Nat.mod_lt (a - b) (bb_pow_pos k)
    have h2:=Nat.mod_lt b (bb_pow_pos k)
    have h3 : a % bb ^ k = ((a - b) % bb ^ k + b % bb ^ k) % bb ^ k:=by rw [<- Nat.add_mod,Nat.sub_add_cancel h]
    rw [h3]
    generalize (a - b) % bb ^ k = x at *
    generalize b % bb ^ k = y at *
    generalize bb ^ k = M at *
    by_cases hs : x + y < M
    · rw [Nat.div_eq_of_lt hs,Nat.mod_eq_of_lt hs,if_neg (by omega)]
    · have : (x + y) % M = x + y - M:=by rw [Nat.mod_eq_sub_mod (by omega),Nat.mod_eq_of_lt (by omega)]
      rw [this,if_pos (by omega)]
      apply Nat.div_eq_of_lt_le <;> omega
  rw [hc] at e
  have la:=lim_lt a k
  have lb:=lim_lt b k
  have ld:=lim_lt (a - b) k
  have lc:=bor_le a b k
  generalize lim a k = p at *
  generalize lim b k = q at *
  generalize lim (a - b) k = r at *
  generalize bor a b k = c at *
  have hB : bb = 10000:=rfl
  simp only [hB] at e la lb ld ⊢
  omega

/-! comparing -/
theorem lt_of_top {a b k : Nat} (hh : a / bb ^ (k + 1) = b / bb ^ (k + 1)) (h : lim a k < lim b k) : a < b:=by
  have e1 : a / bb ^ k = bb * (a / bb ^ (k + 1)) + lim a k:=by
    have:=Nat.div_add_mod (a / bb ^ k) bb
    rw [Nat.div_div_eq_div_mul,<- Nat.pow_succ] at this
    exact this.symm
  have e2 : b / bb ^ k = bb * (b / bb ^ (k + 1)) + lim b k:=by
    have:=Nat.div_add_mod (b / bb ^ k) bb
    rw [Nat.div_div_eq_div_mul,<- Nat.pow_succ] at this
    exact this.symm
  have : a / bb ^ k < b / bb ^ k:=by rw [e1,e2,hh];omega
  apply Nat.lt_of_not_le;intro hl
  have:=Nat.div_le_div_right (c:=bb ^ k) hl
  omega
theorem div_same {a b k : Nat} (hh : a / bb ^ (k + 1) = b / bb ^ (k + 1)) (h : lim a k = lim b k) : a / bb ^ k = b / bb ^ k:=by
  have e1:=Nat.div_add_mod (a / bb ^ k) bb
  have e2:=Nat.div_add_mod (b / bb ^ k) bb
  rw [Nat.div_div_eq_div_mul,<- Nat.pow_succ] at e1 e2
  unfold lim at h
  rw [<- e1,<- e2,hh,h]
def cmpN (a b : Nat) : Int:=if a < b then -1 else if b < a then 1 else 0

def prQ (m o i : Nat) : Nat:=(m % bb ^ i) * o
def prX (m o i j : Nat) : Nat:=prQ m o i % bb ^ (i + j) + lim m i * (o % bb ^ j) * bb ^ i
def prC (m o i j : Nat) : Nat:=prX m o i j / bb ^ (i + j)

theorem prQ_zero (m o : Nat) : prQ m o 0 = 0:=by unfold prQ;simp [Nat.mod_one]
theorem prC_zero (m o i : Nat) : prC m o i 0 = 0:=by
  unfold prC prX
  rw [Nat.pow_zero,Nat.mod_one,Nat.mul_zero,Nat.zero_mul,Nat.add_zero]
  exact Nat.div_eq_of_lt (Nat.mod_lt _ (bb_pow_pos _))
theorem prX_succ (m o i j : Nat) : prX m o i (j + 1) = prX m o i j + bb ^ (i + j) * (lim (prQ m o i) (i + j) + lim m i * lim o j):=by
  unfold prX
  rw [show i + (j + 1) = (i + j) + 1 by omega,mod_pow_succ,mod_pow_succ,Nat.mul_add (lim m i),Nat.add_mul,Nat.mul_add]
  have : lim m i * (bb ^ j * lim o j) * bb ^ i = bb ^ (i + j) * (lim m i * lim o j):=by
    rw [Nat.pow_add,Nat.mul_assoc (bb ^ i)]
    simp only [Nat.mul_comm,Nat.mul_left_comm]
  rw [this]
  omega
theorem prC_succ (m o i j : Nat) : prC m o i (j + 1) = (lim (prQ m o i) (i + j) + lim m i * lim o j + prC m o i j) / bb:=by
  unfold prC
  rw [prX_succ,show i + (j + 1) = (i + j) + 1 by omega,Nat.pow_succ,<- Nat.div_div_eq_div_mul,Nat.add_mul_div_left _ _ (bb_pow_pos _)]
  congr 1;omega
theorem prX_lim (m o i j : Nat) : lim (prX m o i (j + 1)) (i + j) = (lim (prQ m o i) (i + j) + lim m i * lim o j + prC m o i j) % bb:=by
  unfold lim prC
  rw [prX_succ,Nat.add_mul_div_left _ _ (bb_pow_pos _)]
  unfold lim
  congr 1;omega
theorem prX_low (m o i j t : Nat) (h : t < i + j) : lim (prX m o i (j + 1)) t = lim (prX m o i j) t:=by
  rw [prX_succ]
  unfold lim
  obtain ⟨d,hd⟩ : ∃ d,i + j = t + 1 + d:=⟨i + j - (t + 1),by omega⟩
  rw [hd,Nat.pow_add,Nat.pow_add,Nat.pow_one,Nat.mul_assoc,Nat.mul_assoc,Nat.add_mul_div_left _ _ (bb_pow_pos _)]
  exact Nat.add_mul_mod_self_left _ _ _
theorem prC_lt (m o i j : Nat) : prC m o i j < bb:=by
  induction j with
  | zero=>rw [prC_zero];exact bb_pos
  | succ j ih =>
    rw [prC_succ,Nat.div_lt_iff_lt_mul bb_pos]
    have h1:=lim_lt (prQ m o i) (i + j)
    have h2:=lim_lt m i
    have h3:=lim_lt o j
    have h4 : lim m i * lim o j <= (bb - 1) * (bb - 1):=Nat.mul_le_mul (by omega) (by omega)
    have h5 : (bb - 1) * (bb - 1) = 99980001:=rfl
    have h6 : bb * bb = 100000000:=rfl
    have h7 : bb = 10000:=rfl
    omega
theorem prQ_succ (m o i : Nat) : prQ m o (i + 1) = prQ m o i + lim m i * o * bb ^ i:=by
  unfold prQ
  rw [mod_pow_succ,Nat.add_mul]
  congr 1
  simp only [Nat.mul_comm,Nat.mul_left_comm]
theorem lim_mod (n k t : Nat) (h : t < k) : lim (n % bb ^ k) t = lim n t:=by
  obtain ⟨d,hd⟩ : ∃ d,k = t + 1 + d:=⟨k - (t + 1),by omega⟩
  unfold lim
  rw [hd,Nat.pow_add]
  have h1 : n = bb ^ (t + 1) * bb ^ d * (n / (bb ^ (t + 1) * bb ^ d)) + n % (bb ^ (t + 1) * bb ^ d):=(Nat.div_add_mod ..).symm
  conv=>rhs;rw [h1]
  rw [Nat.pow_succ,Nat.mul_assoc,Nat.mul_assoc,Nat.mul_add_div (bb_pow_pos _),Nat.mul_assoc,Nat.mul_add_mod]
theorem lim_same_mod {a b k t : Nat} (h : a % bb ^ k = b % bb ^ k) (ht : t < k) : lim a t = lim b t:=by
  rw [<- lim_mod a k t ht,<- lim_mod b k t ht,h]
theorem prQ_all (m o : Nat) : prQ m o (lsz m) = m * o:=by unfold prQ;rw [Nat.mod_eq_of_lt (lsz_lt m)]

/-! the product, limb by limb: its ends -/
theorem prQ_lt (m o i : Nat) : prQ m o i < bb ^ (i + lsz o):=by
  unfold prQ
  rw [Nat.pow_add]
  by_cases h0 : o = 0
  · subst h0;rw [Nat.mul_zero];exact Nat.mul_pos (bb_pow_pos _) (bb_pow_pos _)
  · exact Nat.mul_lt_mul_of_lt_of_lt (Nat.mod_lt _ (bb_pow_pos _)) (lsz_lt o)
theorem prX_done (m o i j : Nat) (hj : lsz o <= j) : prX m o i j = prQ m o (i + 1):=by
  have e1 : o % bb ^ j = o:=Nat.mod_eq_of_lt (Nat.lt_of_lt_of_le (lsz_lt o) (pow_mono hj))
  have e2 : prQ m o i % bb ^ (i + j) = prQ m o i:=Nat.mod_eq_of_lt (Nat.lt_of_lt_of_le (prQ_lt m o i) (pow_mono (by omega)))
  unfold prX
  rw [e1,e2,prQ_succ]
theorem prC_pos_le (m o i j : Nat) (h : 0 < prC m o i j) : j <= lsz o:=by
  apply Nat.le_of_not_lt;intro hj
  unfold prC at h
  rw [prX_done m o i j (by omega),Nat.div_eq_of_lt (Nat.lt_of_lt_of_le (prQ_lt m o (i + 1)) (pow_mono (by omega)))] at h
  omega
theorem prX_ends (m o i j : Nat) (hj : lsz o <= j) (hc : prC m o i j = 0) (t : Nat) : (if t < i + j then lim (prX m o i j) t else lim (prQ m o i) t) = lim (prQ m o (i + 1)) t:=by
  rw [prX_done m o i j hj]
  unfold prC at hc
  rw [prX_done m o i j hj] at hc
  have h1 : prQ m o (i + 1) < bb ^ (i + j):=by
    apply Nat.lt_of_not_le;intro hl
    have:=Nat.div_le_div_right (c:=bb ^ (i + j)) hl
    rw [Nat.div_self (bb_pow_pos _)] at this
    omega
  by_cases h : t < i + j
  · rw [if_pos h]
  · rw [if_neg h,lim_of_lt' h1 (by omega),lim_of_lt' (prQ_lt m o i) (by omega)]
theorem prX_at0 (m o i t : Nat) (ht : t < i) : lim (prX m o i 0) t = lim (prQ m o i) t:=by
  unfold prX
  rw [Nat.pow_zero,Nat.mod_one,Nat.mul_zero,Nat.zero_mul,Nat.add_zero,Nat.add_zero]
  exact lim_mod _ _ _ ht
theorem mul_lsz (m o : Nat) : m * o < bb ^ (lsz m + lsz o + 1):=by
  have:=prQ_lt m o (lsz m)
  rw [prQ_all] at this
  exact Nat.lt_of_lt_of_le this (pow_mono (by omega))

/-! the limbs as a list -/
theorem lsz_is {n k : Nat} (h1 : n < bb ^ k) (h2 : k = 0 ∨ bb ^ (k - 1) <= n) : lsz n = k:=by
  have h3:=(lsz_le_iff k n).2 h1
  rcases h2 with rfl | h2
  · omega
  · apply Nat.le_antisymm h3
    apply Nat.le_of_not_lt;intro h
    have:=(lsz_le_iff (k - 1) n).1 (by omega)
    omega
theorem lsz_mono {a b : Nat} (h : a <= b) : lsz a <= lsz b:=(lsz_le_iff _ _).2 (Nat.lt_of_le_of_lt h (lsz_lt b))
def lims (n k : Nat) : List Nat:=(List.range k).map (lim n)
theorem lims_length (n k : Nat) : (lims n k).length = k:=by simp [lims]
theorem lims_get (n k i : Nat) (h : i < (lims n k).length) : (lims n k)[i] = lim n i:=by simp [lims]
theorem lims_succ (n k : Nat) : lims n (k + 1) = lims n k ++ [lim n k]:=by simp [lims,List.range_succ]
theorem lims_getD (n k i : Nat) (h : n < bb ^ k) : (lims n k).getD i 0 = lim n i:=by
  by_cases hi : i < k
  · simp [lims,List.getD,hi]
  · rw [lim_of_lt' h (by omega)]
    simp [lims,List.getD,hi]
theorem lims_cons (n k a : Nat) (ha : a < bb) : a :: lims n k = lims (n * bb + a) (k + 1):=by
  unfold lims
  rw [List.range_succ_eq_map,List.map_cons,List.map_map]
  congr 1
  · unfold lim;simp [Nat.mod_eq_of_lt ha,Nat.mul_comm n bb]
  · apply List.map_congr_left
    intro i _
    simp only [Function.comp]
    unfold lim
    rw [Nat.pow_succ,Nat.mul_comm (bb ^ i) bb,<- Nat.div_div_eq_div_mul,Nat.mul_comm n bb,Nat.mul_add_div bb_pos,Nat.div_eq_of_lt ha,Nat.add_zero]
theorem car_le_lsz {a b k : Nat} (h : 0 < car a b k) : k <= lsz a ∨ k <= lsz b:=by
  by_cases h0 : k = 0
  · omega
  · apply Classical.byContradiction;intro hc
    have h1:=(lsz_le_iff (k - 1) a).1 (by omega)
    have h2:=(lsz_le_iff (k - 1) b).1 (by omega)
    have e : bb ^ k = bb ^ (k - 1) * bb:=by rw [<- Nat.pow_succ];congr 1;omega
    have : bb ^ (k - 1) * bb = bb ^ (k - 1) * 10000:=rfl
    unfold car at h
    rw [Nat.mod_eq_of_lt (a:=a) (by omega),Nat.mod_eq_of_lt (a:=b) (by omega),Nat.div_eq_of_lt (by omega)] at h
    omega
theorem sum_ge {a b k : Nat} (h : k < lsz a ∨ k < lsz b ∨ 0 < car a b k) : bb ^ k <= a + b:=by
  have top : ∀ x,k < lsz x->bb ^ k <= x:=fun x hx=>by
    have hx0 : x ≠ 0:=by intro e;subst e;rw [lsz_zero] at hx;omega
    exact Nat.le_trans (pow_mono (by omega)) (lsz_top hx0)
  rcases h with h | h | h
  · have:=top a h;omega
  · have:=top b h;omega
  · unfold car at h
    have h1:=Nat.mod_le a (bb ^ k)
    have h2:=Nat.mod_le b (bb ^ k)
    apply Nat.le_of_not_lt;intro hl
    rw [Nat.div_eq_of_lt (by omega)] at h
    omega
theorem sum_lsz {a b k : Nat} (h1 : lsz a <= k) (h2 : lsz b <= k) (h3 : car a b k = 0) (h4 : k = 0 ∨ bb ^ (k - 1) <= a + b) : lsz (a + b) = k:=by
  refine lsz_is ?_ h4
  have ha:=(lsz_le_iff _ _).1 h1
  have hb:=(lsz_le_iff _ _).1 h2
  unfold car at h3
  rw [Nat.mod_eq_of_lt ha,Nat.mod_eq_of_lt hb] at h3
  apply Nat.lt_of_not_le;intro hl
  have:=Nat.div_le_div_right (c:=bb ^ k) hl
  rw [Nat.div_self (bb_pow_pos k)] at this
  omega
theorem lsz_add_le {a b k : Nat} (h1 : lsz a <= k) (h2 : lsz b <= k) : lsz (a + b) <= k + 1:=by
  have ha:=(lsz_le_iff _ _).1 h1
  have hb:=(lsz_le_iff _ _).1 h2
  refine (lsz_le_iff _ _).2 ?_
  have : bb ^ (k + 1) = bb ^ k * 10000:=Nat.pow_succ ..
  omega
end Go.Proofs.YtpbegoflpfdajaaGreatDoor.Qd

namespace Go.Proofs.YtpbegoflpfdajaaGreatDoor
open Go.RowKit
open Qd (lims)

def Mags (w : World) (v : Value) (n : Nat) : Prop:=Mg w v (lims n (Qd.lsz n))
theorem Mags.keep {w w' : World} {v : Value} {n : Nat} (h : Mags w v n) (hb : Below w.heap.size w w') : Mags w' v n:=Mg.keep h hb
def BigAt (w : World) (x : Value) (z : Int) : Prop:=∃ s,x = .agg #[.bool (decide (z < 0)),s]/\Mags w s z.natAbs
theorem BigAt.keep {w w' : World} {x : Value} {z : Int} (h : BigAt w x z) (hb : Below w.heap.size w w') : BigAt w' x z:=let ⟨s,h1,h2⟩:=h;⟨s,h1,h2.keep hb⟩
theorem Mg.upTo' {w : World} {p : Option Addr} {k c n : Nat} (h : Mg w (.slice p k c) (lims n k)) {j : Nat} (hj : j <= k) : Mg w (.slice p j c) (lims n j):=by
  obtain ⟨p',c',he,h0,hc⟩:=h
  injection he with e1 e2 e3
  subst e1;subst e3
  rw [Qd.lims_length] at e2 h0
  refine ⟨p,c,by rw [Qd.lims_length],by rw [Qd.lims_length];omega,fun hl=>?_⟩
  have hj0 : j ≠ 0:=by intro h;subst h;exact hl rfl
  obtain ⟨g,rfl,hg,hx⟩:=hc (by intro h;have:=congrArg List.length h;rw [Qd.lims_length] at this;simp at this;omega)
  refine ⟨g,rfl,hg,fun i hi=>?_⟩
  rw [Qd.lims_length] at hi
  have:=hx i (by rw [Qd.lims_length];omega)
  rw [Qd.lims_get] at this ⊢
  exact this
theorem Mg.parts {w : World} {v : Value} {n k : Nat} (h : Mg w v (lims n k)) : ∃ p c,v = .slice p k c/\k <= c/\(k ≠ 0->∃ g,p = some ⟨g,0,none⟩/\g < w.heap.size/\∀ i,i < k->w.cell? ⟨g,i,none⟩ = some (.int .i64 (Qd.lim n i : Nat))):=by
  obtain ⟨p,c,rfl,h0,hc⟩:=h
  rw [Qd.lims_length] at h0
  refine ⟨p,c,by rw [Qd.lims_length],h0,fun hk=>?_⟩
  obtain ⟨g,rfl,hg,hx⟩:=hc (by intro h;have:=congrArg List.length h;rw [Qd.lims_length] at this;simp at this;omega)
  refine ⟨g,rfl,hg,fun i hi=>?_⟩
  have:=hx i (by rw [Qd.lims_length];exact hi)
  rwa [Qd.lims_get] at this

theorem i74 : (Tryz.prog.info? 74).map (·.size) = some 2:=by kernel_rfl
theorem range_two {w : World} {b : Nat} {x y : Value} (h0 : w.cell? ⟨b,0,none⟩ = some x) (h1 : w.cell? ⟨b,1,none⟩ = some y) : w.rangeAt b 0 [x,y]:=fun j v hv=>by
  match j with
  | 0=>simp at hv;subst hv;exact h0
  | 1=>simp at hv;subst hv;exact h1
  | j + 2=>simp at hv
theorem ret74 {fn : Func} {R : Ending->World->Prop} {a : Act} {w : World} {tm : Nat} (hres : fn.results = #[.cell tm 74]) (b : Nat) (ht : a.tmps.getD tm undef = .pointer (some ⟨b,0,none⟩)) (x y : Value)
    (h0 : w.cell? ⟨b,0,none⟩ = some x) (h1 : w.cell? ⟨b,1,none⟩ = some y) (hdf : a.defers = []) (hR : R (.returned (.agg #[x,y])) w) : bodyPost Tryz.prog fn R .ret a w :=
  ret_cell hres b 0 ht [x,y] Tryz.underlying74 rfl i74 (range_two h0 h1) hdf hR

set_option maxHeartbeats 1000000 in
theorem refTrim_any (b : Bool) (s : Value) (n k : Nat) (hk : k <= 100000) (hn : n < Qd.bb ^ k) (w : World) (hm : Mg w s (lims n k)) :
    Calls Tryz.prog 144 #[.agg #[.bool b,s]] w fun e w'=>∃ s',e = .returned (.agg #[.bool (b && !decide (n = 0)),s'])/\Mags w' s' n/\Below w.heap.size w w':=by
  obtain ⟨p,c,rfl,h0,hc⟩:=hm.parts
  have Hn:=Lib.hid hn;have Hc:=Lib.hid hc;have Hm:=Lib.hid hm
  obtain ⟨z,hz0⟩ : ∃ z,decide (n = 0) = z:=⟨_,rfl⟩
  rw [hz0]
  have Hz0:=Lib.hid hz0
  clear hn hc hm hz0
  go_enter Tryz.func144,Tryz.ntmps144
  go_wp2
  go_loop [3] (fun i=>∃ j : Nat,i = .int .i64 j/\j <= k/\n < Qd.bb ^ j) (fun i=>(intOf i).toNat)
  case atStart=>exact ⟨k,rfl,Nat.le_refl _,Hn.out⟩
  case round =>
    obtain ⟨j,rfl,hj,hjn⟩:=hrel
    have Hj:=Lib.hid hjn;clear hjn
    have fin : ∀ W',Below w.heap.size w W'->∀ j,j = Qd.lsz n->j <= k->Mags W' (.slice p j c) n:=fun W' hb j e hjk=>by
      subst e
      exact (Hm.out.upTo' hjk).keep hb
    have Fin:=Lib.hid fin;clear fin
    by_cases h : j = 0
    · subst h
      have hn0 : n = 0:=by have:=Hj.out;simpa using this
      have hz:=Lib.hid (show 0 = Qd.lsz n from (Qd.lsz_eq_zero.2 hn0).symm)
      have hd : decide (n = 0) = true:=by simpa using hn0
      obtain rfl : z = true:=Hz0.out.symm.trans hd
      clear hn0 hd
      go_wp2
      refine ret74 Tryz.results144 _ rfl _ _ (by simp;rfl) (by simp;rfl) rfl ?_
      exact ⟨_,by cases b <;> rfl,Fin.out _ (by repeat' first | exact Below.refl _ _ | assumption | refine Below.setCell ?_ ?_ _ | refine Below.alloc ?_ ?_ _ | refine below_drewN ?_ | refine Below.drew ?_ | (simp;done) | (simp;omega)) 0 hz.out (by omega),(by repeat' first | exact Below.refl _ _ | assumption | refine Below.setCell ?_ ?_ _ | refine Below.alloc ?_ ?_ _ | refine below_drewN ?_ | refine Below.drew ?_ | (simp;done) | (simp;omega))⟩
    · obtain ⟨g,rfl,hg,hx⟩:=Hc.out (by omega)
      have hcell:=hx (j - 1) (by omega)
      have d1 : decide ((0 : Int) < (j : Int)) = true:=by simp;omega
      by_cases h2 : Qd.lim n (j - 1) = 0
      · rw [h2] at hcell
        have hnew:=Lib.hid (Qd.lsz_down (j:=j - 1) (by rw [show j - 1 + 1 = j by omega];exact Hj.out) h2)
        clear hx h2
        go_wp2
        go_round
        case rel=>exact ⟨j - 1,by go_num,by omega,hnew.out⟩
        case measure=>simp [intOf];omega
      · have hz:=Lib.hid (show j = Qd.lsz n from by
          have h3:=(Qd.lsz_le_iff j n).2 Hj.out
          have h4:=Qd.lsz_stop h2
          omega)
        have hd : decide (n = 0) = false:=by
          simp only [decide_eq_false_iff_not];intro e;subst e;exact h2 (Qd.lim_zero _)
        obtain rfl : z = false:=Hz0.out.symm.trans hd
        clear hd
        obtain ⟨x,hx0⟩ : ∃ x,Qd.lim n (j - 1) = x:=⟨_,rfl⟩
        rw [hx0] at hcell h2
        have d2 : decide ((x : Int) = 0) = false:=by simp;omega
        have d3 : decide ((j : Int) = 0) = false:=by simp;omega
        clear hx hx0
        go_wp2
        refine ret74 Tryz.results144 _ rfl _ _ (by simp;rfl) (by simp;rfl) rfl ?_
        exact ⟨_,by cases b <;> rfl,Fin.out _ (by repeat' first | exact Below.refl _ _ | assumption | refine Below.setCell ?_ ?_ _ | refine Below.alloc ?_ ?_ _ | refine below_drewN ?_ | refine Below.drew ?_ | (simp;done) | (simp;omega)) j hz.out hj,(by repeat' first | exact Below.refl _ _ | assumption | refine Below.setCell ?_ ?_ _ | refine Below.alloc ?_ ?_ _ | refine below_drewN ?_ | refine Below.drew ?_ | (simp;done) | (simp;omega))⟩
theorem fld74 (x : Value) (p : Option Addr) (n c : Nat) (w : World) : (Instr.field 74 (.agg #[x,.slice p n c]) 1).run Tryz.prog w = .ok (.slice p n c) w:=by
  unfold Instr.field
  simp [run_underlying Tryz.underlying74,asAgg,part,isAgg,run_underlying Tryz.underlying72]
theorem fd74 {ops : Array Oper} {rest : List Oper} {op : Oper} {a : Act} {w : World} {Q : Exit->Act->World->Prop} (x : Value) (p : Option Addr) (n c : Nat)
    (ho : op.guard = none/\∃ s,op.op = .field 74 s 1/\a.eval s = .agg #[x,.slice p n c])
    (h : wpList Tryz.prog ops Q rest (a.put op.dst (.slice p n c)) w) : wpList Tryz.prog ops Q (op :: rest) a w:=by
  obtain ⟨hg,s,hop,hs⟩:=ho
  refine wpList_plain hg fun K hK=>?_
  unfold Oper.wp
  simp [execOp,hop,hs,fld74,Result.andThen]
  exact hK _ _ h
end Go.Proofs.YtpbegoflpfdajaaGreatDoor
